import PyProof.Rows.All
import Wide.All
import OpenK.AllK
import Wide.FinOn
import Lean
import PyProof.EqAt
import PyProof.EqKinds
import PyProof.TupleCall
import PySem.Challenge.RW_fairbook_k10_book
set_option Elab.async false
set_option linter.all false
set_option maxRecDepth 100000
section
open PySem PySem.Spec PyProof.Rows
abbrev ax:=@if_neg
abbrev aA:=@if_pos
abbrev aC:=@PySem.wpAny_bind
abbrev aR:=@PySem.wpAny_pure
abbrev a7:=@PySem.sizeLine_eq
abbrev bu:=@Nat.le_refl
abbrev bA:=@List.mem_cons_self
abbrev bH:=@List.length_map
abbrev bN:=@PySem.W.mg_of
abbrev bO:=@decide_eq_true
abbrev bV:=@PySem.lookup_relabel_local
abbrev cb:=@Bool.false_ne_true
abbrev cc:=@PySem.Heap.lt_size
abbrev cq:=@Option.some.inj
abbrev cE:=@List.mem_cons_of_mem
abbrev cL:=@PySem.Heap.get?_push_of_some
abbrev cU:=@Nat.ne_of_lt
abbrev cW:=@decide_eq_false
abbrev dA:=@congrArg
abbrev dD:=@Nat.zero_le
abbrev dO:=@List.map_cons
abbrev d5:=@List.length_cons
abbrev d6:=@List.mem_of_getElem?
abbrev eA:=@Nat.le_trans
abbrev eB:=@of_decide_eq_true
abbrev eP:=@List.size_toArray
abbrev eQ:=@Nat.lt_of_lt_of_le
abbrev eR:=@PySem.Heap.get?_push_size
abbrev fk:=@Array.getD_eq_getD_getElem?
abbrev fM:=@Int.le_refl
abbrev fN:=@List.getElem?_map
abbrev fX:=@Array.getElem?_eq_getElem
abbrev gF:=@List.length_append
abbrev gG:=@List.map_map
abbrev gH:=@Ne.symm
abbrev gT:=@Array.length_toList
abbrev gU:=@PySem.wpAny_mono
abbrev hZ:=@List.mem_cons
abbrev iB:=@List.mem_append_right
abbrev iT:=@List.length_take
abbrev jh:=@List.map_append
abbrev jF:=@List.getElem?_eq_getElem
abbrev jG:=@PySem.PassesOwn.never
abbrev jH:=@PySem.W.mg_none_of
abbrev j_:=@List.lookup_cons
abbrev kc:=@PySem.Heap.SameBut.update
abbrev kg:=@PySem.wpAny_setState_of
abbrev kL:=@List.take_length
abbrev kM:=@Nat.le_succ
abbrev kN:=@Nat.lt_irrefl
abbrev kO:=@PySem.W.kia_one
abbrev lZ:=@Nat.le_of_lt
abbrev l8:=@PySem.F.plainAttrs_list
abbrev l_:=@PySem.Heap.size_push
abbrev ni:=@PySem.mem_of_lookup
abbrev nq:=@PySem.wpAny_truthy_bool
abbrev oR:=@Bool.false_eq_true
abbrev oS:=@Nat.lt_succ_self
abbrev oT:=@Nat.ne_of_gt
abbrev oU:=@PySem.wpAny_holding
abbrev qf:=@List.Perm.refl
abbrev qg:=@List.map_congr_left
abbrev qh:=@Sum.inl.inj
abbrev sq:=@Array.getElem?_toList
abbrev sr:=@Int.toNat_natCast
abbrev sv:=@List.any_cons
abbrev sx:=@List.filterMap_cons
abbrev sy:=@List.length_filter_le
abbrev sC:=@List.nodup_nil
abbrev sD:=@List.take_add_one
abbrev sE:=@Nat.lt_trans
abbrev sF:=@PySem.F.slot_list_append
abbrev sG:=@PySem.F.type_list_append
abbrev sI:=@PySem.plainId_quiet
abbrev sJ:=@PySem.wpAny_Call_Name_kw
abbrev sL:=@PySem.wpAny_loadPart_at
abbrev sM:=@PySem.wpAny_of_eq
abbrev sN:=@PySem.wpAny_passesOwn
abbrev uX:=@Bool.eq_iff_iff
abbrev uY:=@List.find?_cons
abbrev uZ:=@List.getD_eq_getElem?_getD
abbrev u0:=@List.getElem?_set_self
abbrev u3:=@List.length_singleton
abbrev u4:=@List.mem_map
abbrev u5:=@List.not_mem_nil
abbrev u6:=@Nat.le_of_eq
abbrev u7:=@PySem.F.plain_min_loop
abbrev u_:=@PySem.codeAny_builtin
abbrev va:=@PySem.codeAny_mono
abbrev vb:=@PySem.wpAny_call_entry
abbrev vc:=@PySem.wpAny_isInstance
abbrev vd:=@PySem.wpAny_newList
abbrev ve:=@PySem.wpAny_storeSet_of
abbrev yA:=@Classical.byContradiction
abbrev yB:=@List.cons.inj
abbrev yC:=@List.filter_cons
abbrev yD:=@List.filter_cons_of_pos
abbrev yE:=@List.getElem?_eq_none
abbrev yF:=@List.getElem?_replicate
abbrev yG:=@List.getElem?_set_ne
abbrev yH:=@List.length_nil
abbrev yI:=@List.length_range
abbrev yJ:=@List.mem_append_left
abbrev yK:=@Nat.lt_succ_of_lt
abbrev yL:=@Nat.succ_pos
abbrev yM:=@PySem.Heap.SameBut.refl
abbrev yN:=@PySem.call_meetsIn
abbrev yO:=@PySem.wpAny_execs_nil
abbrev yP:=@decide_eq_true_eq
abbrev yQ:=@of_decide_eq_false
abbrev BZ:=@Bool.and_eq_true
abbrev B3:=@List.append_assoc
abbrev B4:=@List.append_nil
abbrev B5:=@List.filterMap_append
abbrev B6:=@List.filter_cons_of_neg
abbrev B7:=@List.filter_map
abbrev B8:=@List.length_drop
abbrev B9:=@List.lookup_append
abbrev B_:=@Nat.not_lt_zero
abbrev Ca:=@Option.map_some
abbrev Cb:=@PySem.Calls.callWith_builtin
abbrev Cc:=@PySem.Calls.evalArgs_plain
abbrev Cd:=@PySem.Calls.spliced_cons
abbrev Ce:=@PySem.F.plainAttrs_dict
abbrev Cf:=@PySem.Heap.get?_update_other
abbrev Cg:=@PySem.tupleKind_room_in1
abbrev Ci:=@PySem.wpAny_newObj_type
abbrev Cj:=@PySem.wpAny_pyIter_list
abbrev ON:=@Array.getElem?_eq_none
abbrev OO:=@List.getElem?_append_left
abbrev OP:=@List.getElem?_append_right
abbrev OQ:=@PySem.F.slot_dict_get
abbrev OR:=@PySem.F.typeOf_object_class
abbrev OS:=@PySem.Heap.get?_update_self
abbrev OT:=@PySem.SetTable.insertAt_perm
abbrev OU:=@PySem.builtinLookup_eq_fast
abbrev aa:=@List
abbrev ae:=@Option
abbrev af:=@PySem.Value
abbrev ag:=@PySem.Shared
abbrev ah:=@PySem.Addr
abbrev ai:=@Bool
abbrev aj:=@PySem.Heap
end
variable {us its vs:aa af} {i t' j n mask wanted ep slot:Nat} {x name qual way:Str} {a lo C dx f bo nt nn be gw dy wa:ah} {o:Obj} {b:ai} {u doc pm cF ct oc:af} {P prog:Program} {w:World} {h h' base:aj} {pins:aa (ah×Obj)} {s s':ag} {ch fp:aa ah} {N ps loose own:aa Str} {M:Model} {A:Around} {E Q:af->ag->Prop} {R:Result->ag->Prop} {pos pos' apos d_ oi py:PySem.Pos} {op:CmpOp} {p l q ow many m0 l1 l2:Int} {rest es ifs:aa Expr} {K:PySem.W.Frag} {st:Stmt} {body:aa Stmt} {tg iter value elt:Expr} {tk:Tok} {mA mg:Str->ae af} {ns ks zs js qs:aa Int} {kw:aa (Str×af)} {env:Env} {fd:FuncData} {outer:aa Env} {kindOf:Str->ae NameKind} {scope:Scope} {an od:ae ah} {T:aa (Int×Int)} {XP:(Str->ae af)->aj->Prop} {YP:World->aj->Prop} {ts iq:aa (Int×Int×Int)} {fn:Str->ai} {caps:aa (Str×Nat)} {pr ar shows:ae Int} {ad:Int->ah}
namespace L2
open PySem PySem.Spec PyProof.Rows
noncomputable abbrev Key:=Sum Int Str
noncomputable def se:Key->af->ai
 | .inl k,v=>Value.isInt k v
 | .inr x,v=>Value.isStrOf x v
noncomputable def ab8(w:World):Key->Int
 | .inl k=>hashInt k
 | .inr x=>hashStr w x
theorem lP:∀{k:Key} {v:af},se k v=true->(∃i t,k=Sum.inl i/\v=Value.int i t)\/(∃x t,k=Sum.inr x/\v=Value.str x t)
 | .inl i,v,h=>by
  obtain⟨t,e⟩:=Value.isInt_shape (k:=i) (v:=v) h
  exact .inl ⟨i,t,rfl,e⟩
 | .inr x,v,h=>by
  obtain⟨t,e⟩:=Value.isStrOf_shape (x:=x) (v:=v) h
  exact .inr ⟨x,t,rfl,e⟩
theorem zkl(i:Int)(t:Tok):se (.inl i) (.int i t)=true:=by simp[se,Value.isInt]
theorem zkk(x:Str)(t:Tok):se (.inr x) (.str x t)=true:=by simp[se,Value.isStrOf]
theorem ab9(a b:Int):decide ((Sum.inl a:Key)=Sum.inl b)=(a==b):=by
 by_cases e:a=b
 ·subst e;simp
 ·have h:¬(Sum.inl a:Key)=Sum.inl b:=λq=>e (qh q)
  rw[cW h]
  exact(beq_eq_false_iff_ne.mpr e).symm
theorem ace(a b:Str):decide ((Sum.inr a:Key)=Sum.inr b)=decide (a=b):=by
 by_cases e:a=b
 ·subst e;simp
 ·have h:¬(Sum.inr a:Key)=Sum.inr b:=λq=>e (Sum.inr.inj q)
  rw[cW h,cW e]
theorem aca(a:Int)(b:Str):decide ((Sum.inl a:Key)=Sum.inr b)=false:=cW (λq=>nomatch q)
theorem acd(a:Str)(b:Int):decide ((Sum.inr a:Key)=Sum.inl b)=false:=cW (λq=>nomatch q)
noncomputable def ee(prog:Program)(w:World):PySem.KeyKind prog w Key where
 is:=se
 hash:=ab8 w
 inj:=λv a b ha hb=>by
  rcases lP ha with⟨i,t,rfl,rfl⟩ | ⟨x,t,rfl,rfl⟩
  ·rcases lP hb with⟨j,u,rfl,e⟩ | ⟨y,u,rfl,e⟩
   ·injection e with e1 _;rw[e1]
   ·exact nomatch e
  ·rcases lP hb with⟨j,u,rfl,e⟩ | ⟨y,u,rfl,e⟩
   ·exact nomatch e
   ·injection e with e1 _;rw[e1]
 byValue:=λk v h=>by
  rcases lP h with⟨i,t,rfl,rfl⟩ | ⟨x,t,rfl,rfl⟩<;>rfl
 pyHash:=λhv h=>by
  rcases lP hv with⟨i,t,rfl,rfl⟩ | ⟨x,t,rfl,rfl⟩
  ·exact wpAny_pyHash_int h
  ·exact wpAny_pyHash_str h
 eqBool:=λhu hv h=>by
  rcases lP hu with⟨i,t,rfl,rfl⟩ | ⟨x,t,rfl,rfl⟩
  ·rcases lP hv with⟨j,u,rfl,rfl⟩ | ⟨y,u,rfl,rfl⟩
   ·rw[ab9]at h;exact wpAny_eqBool_int h
   ·rw[aca]at h;exact SeqAt.EqAt.int_str i t y u _ _ _ _ h
  ·rcases lP hv with⟨j,u,rfl,rfl⟩ | ⟨y,u,rfl,rfl⟩
   ·rw[acd]at h;exact SeqAt.EqAt.str_int x t j u _ _ _ _ h
   ·rw[ace]at h;exact wpAny_eqBool_str h
 «strs»:=λk x t v h=>by
  rcases lP h with⟨i,u,rfl,e⟩ | ⟨y,u,rfl,e⟩
  ·exact nomatch e
  ·injection e with e1 _
   subst e1
   cases v<;>rfl
theorem zhz(prog:Program)(w:World)(i:Int)(t:Tok):(ee prog w).is (.inl i) (.int i t)=true:=zkl i t
theorem zhy(prog:Program)(w:World)(x:Str)(t:Tok):(ee prog w).is (.inr x) (.str x t)=true:=zkk x t
inductive V where
 |aE|bl (b:Bool) |int (i:Int) |str (x:Str) |iF (b:Array UInt8) |nH (b:UInt64) |ref (a:Addr) |ty (n:String)
 deriving DecidableEq
noncomputable def RelV:V->af->Prop
 | .aE,u=>u=Value.none
 | .bl b,u=>u=Value.bool b
 | .int i,u=>∃t,u=Value.int i t
 | .str x,u=>∃t,u=Value.str x t
 | .iF b,u=>∃t,u=Value.bytes b t
 | .nH b,u=>∃t,u=Value.float b t
 | .ref a,u=>u=Value.ref a
 | .ty n,u=>u=Value.type n
noncomputable abbrev Vals:aa V->aa af->Prop:=Paired RelV
theorem Vals.length{xs:aa V}(r:Vals xs us):xs.length=us.length:=Paired.length r
theorem Vals.get:∀{xs:aa V} {us:aa af} {i:Nat} {x:V},Vals xs us->xs[i]?=some x->∃u,us[i]?=some u/\RelV x u
 |_,_,_,_,.nil,e=>by simp at e
 |_,_,0,_,.cons r _,e=>by simp at e;subst e;exact⟨_,rfl,r⟩
 |_,_,i+1,x,.cons _ t,e=>by
  obtain⟨u,h1,h2⟩:=Vals.get (i:=i) (x:=x) t (by simpa using e)
  exact⟨u,by simpa using h1,h2⟩
theorem Vals.append:∀{xs ys:aa V} {us ws:aa af},Vals xs us->Vals ys ws->Vals (xs++ys) (us++ws)
 |_,_,_,_,.nil,s=>s
 |_,_,_,_,.cons r t,s=>.cons r (Vals.append t s)
theorem Vals.take:∀{xs:aa V} {us:aa af} (n:Nat),Vals xs us->Vals (xs.take n) (us.take n)
 |_,_,0,_=>.nil
 |_,_,_+1,.nil=>.nil
 |_,_,n+1,.cons r t=>.cons r (Vals.take n t)
theorem Vals.drop:∀{xs:aa V} {us:aa af} (n:Nat),Vals xs us->Vals (xs.drop n) (us.drop n)
 |_,_,0,r=>r
 |_,_,_+1,.nil=>.nil
 |_,_,n+1,.cons _ t=>Vals.drop n t
noncomputable def gL:ae V->ae af->Prop
 |some v,some u=>RelV v u
 |none,none=>True
 |_,_=>False
noncomputable def KV{κ:Type}:aa (κ×V)->aa (κ×af)->Prop:=Paired λ(p:κ×V) (q:κ×af)=>p.1=q.1/\RelV p.2 q.2
noncomputable def kV:Key->V
 | .inl i=>.int i
 | .inr x=>.str x
inductive HO where
 |lst (xs:List V)
 |tup (xs:List V)
 |dK (kvs:List (Key×V)) |dT (kvs:List (List Key×V))
 |set (S:Int->Bool) (n:Nat)
 |ins (C dx:Addr) (fs:List (Str×V))
 |own (x:Addr)
 |xd (fs:List (Str×V))
 |met (f x:Addr)
 |AF (lo hi:Int)
 |iZ (o:Obj) (u:HO)
 |pP (ps:Array Value)
 |ext (φ:Heap->Prop)
noncomputable abbrev Hp:=ah->ae HO
noncomputable def upd(H:Hp)(a:ah)(o:HO):Hp:=λb=>if b=a then some o else H b
theorem aB{H:Hp}{o:HO}:upd H a o a=some o:=by unfold upd;rw[aA rfl]
theorem aw{H:Hp}{b:ah}{o:HO}(h:b≠a):upd H a o b=H b:=by unfold upd;rw[ax h]
theorem fb{H:Hp}{o u:HO}:upd (upd H a o) a u=upd H a u:=by
 funext b;unfold upd;split<;>rfl
theorem sk{H:Hp}{b:ah}{o u:HO}(h:H a=some o)(h':H b=some u)(d:o≠u):a≠b:=by
 intro e;subst e;rw[h]at h';exact d (cq h')
theorem a6{H:Hp}{b:ah}{o:HO}(h:H a=some o)(h':H b=none):a≠b:=by
 intro e;subst e;rw[h]at h';cases h'
section
variable (P:Program) (w:World)
noncomputable def c8(H:Hp)(h:aj)(a:ah):HO->Prop
 | .lst xs=>xs.length<=sizeLine/\∃(its:aa af) (n:Nat),Vals xs its/\h.get? a=some {cls:=.type "list",data:=.seq its.toArray n}
 | .tup xs=>xs.length<=sizeLine/\∃its:aa af,Vals xs its/\IsTup h a its.toArray
 | .dK kvs=>kvs.length<=sizeLine/\(a==sysModules)=false/\∃vs,KV kvs vs/\h.DictOf (ee P w) a vs
 | .dT kvs=>kvs.length<=sizeLine/\(a==sysModules)=false/\∃xs:aa (aa Key×ah×af),
   Paired (λ(p:aa Key×V) (q:aa Key×ah×af)=>p.1=q.1/\H q.2.1=some (.tup (p.1.map kV))/\RelV p.2 q.2.2) kvs xs/\
   ∃o es ep,h.get? a=some o/\o.ExactDict/\o.data= .dict es ep/\es.toList=xs.map (entryOfKey (tupleKind (ee P w)))/\(xs.map (·.1)).Nodup
 | .set S n=>h.SetOf (intKind P w) a S n
 | .ins C dx fs=>H dx=some (.own a)/\fs.length<=1000/\dx≠a/\h.get? a=some (W.instObj C dx)/\
   ∃mA,h.Ns1 dx mA/\(∀f,gL (fs.lookup f) (mA f))/\PySem.Within mA (fs.map (·.1))
 | .own _=>∃o,h.get? a=some o
 | .xd fs=>∃mA,h.Ns1 a mA/\∀f,gL (fs.lookup f) (mA f)
 | .AF lo hi=>∃t u v,h.get? a=some {cls:=.type "range",data:=.fields #[.int lo t,.int hi u,.int 1 v]}
 | .iZ o u=>h.get? a=some o/\c8 H h a u
 | .pP ps=>h.get? a=some {cls:=.none,data:=.fields ps}
 | .met f x=>h.get? a=some (W.methodObj (.ref f) (.ref x))
 | .ext φ=>φ h/\(∃o,h.get? a=some o)/\∀h1 h2:aj,φ h1->(∀o,h1.get? a=some o->h2.get? a=some o)->φ h2
noncomputable def cG(H:Hp)(h:aj):Prop:=∀a o,H a=some o->c8 P w H h a o
end
section
variable {H H':Hp} {o:HO}
theorem c8.lt(x:c8 P w H h a o):a<h.objs.size:=by
 cases o with
 |lst xs=>obtain⟨_,_,_,_,e⟩:=x;exact cc e
 |tup xs=>obtain⟨_,_,_,p⟩:=x;exact p.lt
 |dK kvs=>obtain⟨_,_,_,_,o,_,_,e,_⟩:=x;exact cc e
 |dT kvs=>obtain⟨_,_,_,_,o,_,_,e,_⟩:=x;exact cc e
 |set S n=>obtain⟨o,_,_,_,e,_⟩:=x;exact cc e
 |ins C dx fs=>obtain⟨_,_,_,e,_⟩:=x;exact cc e
 |own y=>obtain⟨_,e⟩:=x;exact cc e
 |xd fs=>obtain⟨_,⟨_,_,_,e,_⟩,_⟩:=x;exact cc e
 |AF lo hi=>obtain⟨_,_,_,e⟩:=x;exact cc e
 |iZ ob u=>obtain⟨e,_⟩:=x;exact cc e
 |pP ps=>exact cc (show h.get? a=some _ from x)
 |met f y=>exact cc (show h.get? a=some _ from x)
 |ext φ=>obtain⟨_,⟨_,e⟩,_⟩:=x;exact cc e
theorem Paired.eJ{α β:Type}{F G:α->β->Prop}:∀{l₁:aa α} {l₂:aa β},Paired F l₁ l₂->(∀a b,F a b->G a b)->Paired G l₁ l₂
 |_,_,.nil,_=>.nil
 |_,_,.cons r t,f=>.cons (f _ _ r) (Paired.eJ t f)
theorem c8.lK(x:c8 P w H h a o)(k:∀b u,(b=a\/H b=some (.own a))->h.get? b=some u->h'.get? b=some u)
  (ho:∀b,H b=some (.own a)->H' b=some (.own a)) (ht:∀b xs,H b=some (.tup xs)->H' b=some (.tup xs)):c8 P w H' h' a o:=by
 induction o with
 |lst xs=>obtain⟨z,its,n,r,e⟩:=x;exact⟨z,its,n,r,k _ _ (.inl rfl) e⟩
 |tup xs=>obtain⟨z,its,r,ob,e,c⟩:=x;exact⟨z,its,r,ob,k _ _ (.inl rfl) e,c⟩
 |dK kvs=>obtain⟨z,y,vs,r,ob,es,ep,e,c⟩:=x;exact⟨z,y,vs,r,ob,es,ep,k _ _ (.inl rfl) e,c⟩
 |dT kvs=>
  obtain⟨z,y,xs,r,ob,es,ep,e,c⟩:=x
  exact⟨z,y,xs,Paired.eJ r λp q z=>⟨z.1,ht _ _ z.2.1,z.2.2⟩,ob,es,ep,k _ _ (.inl rfl) e,c⟩
 |set S n=>obtain⟨ob,es,ep,t,e,c⟩:=x;exact⟨ob,es,ep,t,k _ _ (.inl rfl) e,c⟩
 |ins C dx fs=>
  obtain⟨d,z,ne,e,mA,⟨od,es,ep,e2,c⟩,r⟩:=x
  exact⟨ho _ d,z,ne,k _ _ (.inl rfl) e,mA,⟨od,es,ep,k _ _ (.inr d) e2,c⟩,r⟩
 |own y=>obtain⟨ob,e⟩:=x;exact⟨ob,k _ _ (.inl rfl) e⟩
 |xd fs=>obtain⟨mA,⟨od,es,ep,e,c⟩,r⟩:=x;exact⟨mA,⟨od,es,ep,k _ _ (.inl rfl) e,c⟩,r⟩
 |AF lo hi=>obtain⟨t,u,v,e⟩:=x;exact⟨t,u,v,k _ _ (.inl rfl) e⟩
 |iZ ob u ih=>obtain⟨e,q⟩:=x;exact⟨k _ _ (.inl rfl) e,ih q⟩
 |pP ps=>
  have e:h.get? a=some {cls:=.none,data:=.fields ps}:=x
  show h'.get? a=some {cls:=.none,data:=.fields ps}
  exact k a _ (.inl rfl) e
 |met f y=>
  have e:h.get? a=some (W.methodObj (.ref f) (.ref y)):=x
  show h'.get? a=some (W.methodObj (.ref f) (.ref y))
  exact k a _ (.inl rfl) e
 |ext φ=>obtain⟨p,⟨o,e⟩,st⟩:=x;exact⟨st _ _ p λo q=>k _ _ (.inl rfl) q,⟨o,k _ _ (.inl rfl) e⟩,st⟩
theorem cG.lt(x:cG P w H h)(e:H a=some o):a<h.objs.size:=(x a o e).lt
theorem cG.fresh(x:cG P w H h)(e:h.objs.size<=a):H a=none:=by
 cases q:H a with
 |none=>rfl
 |some u=>exact absurd (eQ (x.lt q) e) (kN _)
theorem cG.kept(x:cG P w H h)(k:∀b u,h.get? b=some u->h'.get? b=some u):cG P w H h':=λa o e=>
 (x a o e).lK (λb u _ q=>k b u q) (λ_ q=>q) λ_ _ q=>q
theorem cG.laid(x:cG P w H h)(k:∀b u,h.get? b=some u->h'.get? b=some u)(hp:h.objs.size<=a)(new:c8 P w (upd H a o) h' a o):cG P w (upd H a o) h':=λb u e=>by
 have hn:=x.fresh hp
 by_cases hb:b=a
 ·subst hb;rw[aB]at e;cases e;exact new
 ·rw[aw hb]at e
  exact(x b u e).lK (λc v _ q=>k c v q) (λc q=>by rw[aw (a6 q hn)];exact q) λc xs q=>by rw[aw (a6 q hn)];exact q
end
noncomputable def Rd(H:Hp)(a:ah)(u:HO):Prop:=H a=some u\/∃o,H a=some (.iZ o u)
theorem Rd.ok{H:Hp}{u:HO}(r:Rd H a u)(x:cG P w H h):c8 P w H h a u:=by
 rcases r with r| ⟨o,r⟩
 ·exact x a u r
 ·obtain⟨_,q⟩:=x a _ r
  exact q
noncomputable def vp:ae HO->Prop
 |some (.lst _)=>True
 |some (.dK _)=>True
 |some (.dT _)=>True
 |some (.set _ _)=>True
 |some (.ins _ _ _)=>True
 |some (.ext _)=>True
 |_=>False
section
variable {H:Hp} {x e:ah} {o':HO}
theorem cG.write(ok:cG P w H h)(mu:vp (H x))(he:e=x\/H e=some (.own x))(k:∀b u,b≠e->h.get? b=some u->h'.get? b=some u)(tG:∃u,h'.get? e=some u)
  (new:c8 P w (upd H x o') h' x o'):cG P w (upd H x o') h':=λb u q=>by
 have kD:∀c y,H c=some (.own y)->c≠x:=λc y r z=>by subst z;rw[r]at mu;exact mu
 have adp:∀c xs,H c=some (.tup xs)->c≠x:=λc xs r z=>by subst z;rw[r]at mu;exact mu
 by_cases hb:b=x
 ·subst hb;rw[aB]at q;cases q;exact new
 ·rw[aw hb]at q
  by_cases iJ:b=e
  ·have q':H b=some (.own x):=by
    rcases he with z|z
    ·exact absurd (iJ.trans z) hb
    ·rw[iJ];exact z
   rw[q]at q';cases q'
   obtain⟨v,hv⟩:=tG
   exact⟨v,by rw[iJ];exact hv⟩
  ·refine(ok b u q).lK (λc v hc r=>k c v ?_ r) (λc r=>by rw[aw (kD c b r)];exact r) λc xs r=>by rw[aw (adp c xs r)];exact r
   rcases hc with rfl|hc
   ·exact iJ
   ·rintro rfl
    rcases he with z|z
    ·exact kD c b hc z
    ·rw[hc]at z;cases z;exact hb rfl
end
structure Un(fs ex:List Addr)(H H':Hp)(h h':Heap):Prop where
 keep:∀b o,h.get? b=some o->H b=none->b∉fs->b∉ex->h'.get? b=some o
 slot:∀b o,h.get? b=some o->H b=none->b∈fs->b∉ex->∃sl,h'.get? b=some {o with slots:=sl}
 free:∀b o,h.get? b=some o->H b=none->b∉ex->H' b=none
 there:∀b o,h.get? b=some o->b∉ex->∃o',h'.get? b=some o'
 i_:∀b xs,H b=some (.tup xs)->H' b=some (.tup xs)
 iH:∀b o u,H b=some (.iZ o u)->H' b=some (.iZ o u)
 jX:∀b ps,H b=some (.pP ps)->∃more,H' b=some (.pP (ps++more))
section
variable {fs sY ex ex':aa ah} {H H1 H2:Hp} {h1 h2:aj} {x e:ah} {o:HO}
theorem Un.any(u:Un fs ex H H1 h h1){b:ah}{ob:Obj}(q:h.get? b=some ob)(n:H b=none)(hx:b∉ex):∃sl,h1.get? b=some {ob with slots:=sl}:=by
 by_cases hb:b∈fs
 ·exact u.slot b ob q n hb hx
 ·exact⟨ob.slots,u.keep b ob q n hb hx⟩
theorem Un.kept(k:∀b u,h.get? b=some u->h'.get? b=some u):Un fs ex H H h h':=
 ⟨λb ob q _ _ _=>k b ob q,λb ob q _ _ _=>⟨ob.slots,k b ob q⟩,λ_ _ _ n _=>n,λb ob q _=>⟨ob,k b ob q⟩,λ_ _ q=>q,λ_ _ _ q=>q,λ_ ps q=>⟨#[],by rw[q];simp⟩⟩
theorem Un.refl:Un fs ex H H h h:=Un.kept λ_ _ q=>q
theorem Un.laid(k:∀b u,h.get? b=some u->h'.get? b=some u)(hp:h.objs.size<=a)(hn:H a=none):Un fs ex H (upd H a o) h h' where
 keep:=λb u q _ _ _=>k b u q
 slot:=λb u q _ _ _=>⟨u.slots,k b u q⟩
 free:=λb u q n _=>by rw[aw (cU (eQ (cc q) hp))];exact n
 there:=λb u q _=>⟨u,k b u q⟩
 i_:=λb xs q=>by rw[aw (a6 q hn)];exact q
 iH:=λb u xs q=>by rw[aw (a6 q hn)];exact q
 jX:=λb ps q=>⟨#[],by rw[aw (a6 q hn),q];simp⟩
theorem Un.write(mu:vp (H x))(he:e=x\/H e=some (.own x))(k:∀b u,b≠e->h.get? b=some u->h'.get? b=some u)(tG:∃u,h'.get? e=some u):Un fs ex H (upd H x o) h h':=by
 have hx:∀b,H b=none->b≠x:=λb n z=>by subst z;rw[n]at mu;exact mu
 have hb:∀b,H b=none->b≠e:=λb n z=>by
  subst z
  rcases he with r|r
  ·exact hx b n r
  ·rw[n]at r;cases r
 have hm:∀b u,H b=some u->¬vp (some u)->b≠x:=λb u q nm z=>by subst z;rw[q]at mu;exact nm mu
 refine⟨λb u q n _ _=>k b u (hb b n) q,λb u q n _ _=>⟨u.slots,k b u (hb b n) q⟩,λb u q n _=>by rw[aw (hx b n)];exact n,λb u q _=>?_,
  λb xs q=>by rw[aw (hm b _ q λz=>z)];exact q,λb u xs q=>by rw[aw (hm b _ q λz=>z)];exact q,λb ps q=>⟨#[],by rw[aw (hm b _ q λz=>z),q];simp⟩⟩
 by_cases iJ:b=e
 ·subst iJ;exact tG
 ·exact⟨u,k b u iJ q⟩
end
noncomputable def A0(h:aj)(H:Hp):aa ah:=(List.range h.objs.size).filter λa=>(H a).isSome
noncomputable def nR(h:aj)(H:Hp):aj:=W.hideAll h (A0 h H)
theorem zkB(h:aj)(H:Hp):(nR h H).objs.size=h.objs.size:=W.hideAll_size _ _
theorem ZH{H:Hp}{b:ah}(e:h.get? b=some o)(n:H b=none):(nR h H).get? b=some o:=
 W.hideAll_get _ e λhm=>by
  have q:(H b).isSome=true:=(List.mem_filter.mp hm).2
  rw[n]at q;simp at q
theorem adt{H:Hp}{b:ah}(e:(nR h H).get? b=some o):h.get? b=some o/\H b=none:=by
 have e':h.get? b=some o:=W.of_hideAll (A0 h H) e
 refine⟨e',?_⟩
 cases q:H b with
 |none=>rfl
 |some x=>
  have hm:b∈A0 h H:=List.mem_filter.mpr ⟨List.mem_range.mpr (cc e'),by simp[q]⟩
  have z:(nR h H).get? b=none:=W.hideAll_none (A0 h H) hm
  rw[z]at e;cases e
end L2
variable {v:L2.V} {ys L:aa L2.V} {H H' H1 H2:L2.Hp} {kvs kv:aa (L2.Key×L2.V)} {G:ah->aa L2.V->L2.Hp->Prop}
namespace L2
open PySem PySem.Spec PyProof.Rows
structure Mod(K:W.Frag)(mg:Str->Option Value)(base:Heap):Prop where
 qY:K.In base
 glob:base.Ns mainGlobals mg
 blt:∃mb,base.Ns builtinsNs mb/\∀x:Str,x≠"__name__"->mb x=bootBuiltins x
 nolimit:base.NoLimit
structure Cx where
 prog:Program
 w:World
 K:W.Frag
 mg:Str->Option Value
 base:Heap
 A:Around
 N:List Str
 s₀:Shared
 H₀:Hp
 env:Env
 outer:List Env
 stack:List Env
 ex:List Addr
 fn:Str->Bool
 calm:Bool
 pn:List (Addr×Obj)
 xe:Value->Shared->Prop
noncomputable def eG(l:aa Env):aa ah:=l.filterMap (·.frame)
noncomputable abbrev Cx.fs(X:Cx):aa ah:=eG X.outer
noncomputable def yV(sc:Scope)(x:Str):Prop:=sc.names.lookup x=some .local\/sc.names.lookup x=some .cell\/sc.names.lookup x=some .free
noncomputable def Loc(sc:Scope)(x:Str):Prop:=sc.names.lookup x=some .local\/sc.names.lookup x=some .cell
noncomputable def Look(env:Env)(h:aj)(m:Str->ae af)(x:Str)(u:af):Prop:=
 (env.kindOf x=some .local/\m x=some u)\/((env.kindOf x=some .cell\/env.kindOf x=some .free)/\∃c,env.cells.lookup x=some c/\h.IsCell c (some u))
structure Cx.Ok(X:Cx):Prop where
 mod:Mod X.K X.mg X.base
 kind:X.env.scope.kind= .function
 glob:X.env.globals=mainGlobals
 blt:X.env.builtins=builtinsNs
 above:X.s₀.heap.objs.size<=X.env.locals
 inj:∀x y c,X.env.cells.lookup x=some c->X.env.cells.lookup y=some c->x=y
 has:∀x,(X.env.kindOf x=some .cell\/X.env.kindOf x=some .free)->∃c,X.env.cells.lookup x=some c
 ma:∀x c,X.fn x=true->X.env.cells.lookup x=some c->X.s₀.heap.objs.size<=c
 hd:X.calm=true->X.A.handled=none
 frames:X.A.frames=some X.stack
 rB:X.stack=X.outer\/(X.stack=X.env::X.outer/\X.env.frame=some X.env.locals)
 vG:∀b∈X.ex,b≠X.env.locals/\∀x c,X.env.cells.lookup x=some c->c≠b
 bs:∀b o,X.base.get? b=some o->X.s₀.heap.get? b=some o/\X.H₀ b=none
 kU:X.base.objs.size<=X.s₀.heap.objs.size
 pJ:∀b o,X.base.get? b=some o->b∉X.ex
 qv:∀b∈X.ex,b∉X.fs
 i0:X.s₀.heap.FunFrames X.base X.outer
 mi:∀b∈X.fs,X.H₀ b=none
structure Inv(X:Cx)(pins:List (Addr×Obj))(σ:List (Option V))(H:Hp)(s:Shared):Prop where
 ok:X.Ok
 os:s.os=X.s₀.os
 bare:AllBare s.gens
 base:Un X.fs X.ex X.H₀ H X.s₀.heap s.heap
 loc:∃m,s.heap.Ns X.env.locals m/\∀(i:Nat) (x:Str) (v:V),X.N[i]?=some x->σ[i]?=some (some v)->yV X.env.scope x->∃u,RelV v u/\Look X.env s.heap m x u
 cell:∀x c,X.env.cells.lookup x=some c->∃v,s.heap.IsCell c v
 free:H X.env.locals=none
 gh:∀x c,X.env.cells.lookup x=some c->H c=none
 pin:∀p∈X.pn++pins,s.heap.get? p.1=some p.2/\H p.1=none/\p.1≠X.env.locals/\p.1∉X.fs/\∀v,p.2.data≠.cell v
 aI:cG X.prog X.w H s.heap
 len:σ.length=X.N.length
section
variable {X:Cx} {pins:aa (ah×Obj)} {σ:aa (ae V)}
theorem Cx.Ok.adf(ok:X.Ok){b:ah}(e:X.base.get? b=some o):b∉X.fs:=λhb=>by
 have:=(ok.i0.mem hb).1
 rw[e]at this;cases this
theorem Inv.bs(I:Inv X pins σ H s):∀b o,X.base.get? b=some o->s.heap.get? b=some o/\H b=none:=λb o e=>
 ⟨I.base.keep b o (I.ok.bs b o e).1 (I.ok.bs b o e).2 (I.ok.adf e) (I.ok.pJ b o e),I.base.free b o (I.ok.bs b o e).1 (I.ok.bs b o e).2 (I.ok.pJ b o e)⟩
theorem Inv.bk(I:Inv X pins σ H s):∀b o,X.base.get? b=some o->s.heap.get? b=some o:=λb o e=>(I.bs b o e).1
theorem Inv.mod(I:Inv X pins σ H s):Mod X.K X.mg X.base:=I.ok.mod
theorem Inv.dS(I:Inv X pins σ H s):X.K.In s.heap:=I.ok.mod.qY.keeps I.bk
theorem Inv.lt(I:Inv X pins σ H s):X.env.locals<s.heap.objs.size:=let⟨_,hn,_⟩:=I.loc;hn.lt
theorem Inv.sz(I:Inv X pins σ H s):X.s₀.heap.objs.size<=s.heap.objs.size:=eA I.ok.above (lZ I.lt)
theorem Inv.adh(I:Inv X pins σ H s)(h:s.heap.objs.size<=a):a∉X.fs:=λhb=>by
 obtain⟨_,o,ho,_⟩:=I.ok.i0.mem hb
 exact absurd (eQ (cc ho) (eA I.sz h)) (kN _)
theorem Inv.nF(I:Inv X pins σ H s):∀x c,X.env.cells.lookup x=some c->c≠X.env.locals:=λx c e z=>by
 obtain⟨v,o,ho,hd⟩:=I.cell x c e
 obtain⟨m,⟨o',es,ep,jQ,D4,_⟩,_⟩:=I.loc
 rw[z,jQ]at ho;cases ho;rw[D4]at hd;cases hd
theorem Inv.i0(I:Inv X pins σ H s):s.heap.FunFrames X.base X.outer:=by
 have all:∀(l:aa Env),(∀b∈eG l,b∈X.fs)->X.s₀.heap.FunFrames X.base l->s.heap.FunFrames X.base l:=by
  intro l
  induction l with
  |nil=>intro _ _;trivial
  |cons env r ih=>
   intro hs hl
   obtain⟨hk,⟨L,o,hf,hn,ho,hd⟩,hr⟩:=hl
   have hL:L∈X.fs:=hs L (by unfold eG;rw[sx,hf];exact bA)
   obtain⟨sl,e⟩:=I.base.slot L o ho (I.ok.mi L hL) hL λz=>I.ok.qv L z hL
   exact⟨hk,⟨L,_,hf,hn,e,hd⟩,ih (λb hb=>hs b (by unfold eG;rw[sx,hf];exact cE _ hb)) hr⟩
 exact all X.outer (λ_ hb=>hb) I.ok.i0
theorem Inv.stack(I:Inv X pins σ H s):s.heap.FunFrames X.base X.stack:=by
 rcases I.ok.rB with e| ⟨e,hf⟩
 ·rw[e];exact I.i0
 ·rw[e]
  obtain⟨m,hn,_⟩:=I.loc
  refine .cons (by rw[I.ok.kind];decide) hf hn ?_ I.i0
  exact Heap.get?_none_of_le (eA I.ok.kU I.ok.above)
theorem Inv.AV(I:Inv X pins σ H s):∀b∈eG X.stack,b∈X.env.locals::X.fs:=λb hb=>by
 rcases I.ok.rB with e| ⟨e,hf⟩
 ·rw[e]at hb;exact cE _ hb
 ·rw[e]at hb
  unfold eG at hb
  rw[sx,hf]at hb
  exact hb
theorem Inv.L0(I:Inv X pins σ H s):∀b∈eG X.stack,H b=none:=λb hb=>by
 rcases hZ.mp (I.AV b hb)with e|hb
 ·rw[e];exact I.free
 ·obtain⟨_,o,ho,_⟩:=I.ok.i0.mem hb
  exact I.base.free b o ho (I.ok.mi b hb) λz=>I.ok.qv b z hb
theorem Inv.step{g':Array GenState}{t':Nat}{d':Drawn}{ch:aa ah}(I:Inv X pins σ H s)
  (ml:∀b∈ch,(b∈X.ex\/X.s₀.heap.objs.size<=b)/\b≠X.env.locals/\(∀x c,X.env.cells.lookup x=some c->c≠b)/\∀p∈X.pn++pins,p.1≠b)
  (keep:∀b o,b≠X.env.locals->b∉X.fs->b∉ch->s.heap.get? b=some o->H b=none->h'.get? b=some o)
  (slot:∀b o,b≠X.env.locals->b∈X.fs->b∉ch->s.heap.get? b=some o->H b=none->∃sl,h'.get? b=some {o with slots:=sl}) (free:∀b o,b∉ch->s.heap.get? b=some o->H b=none->H' b=none)
  (there:∀b o,b∉ch->s.heap.get? b=some o->∃o',h'.get? b=some o')
  (i_:∀b xs,H b=some (.tup xs)->H' b=some (.tup xs)) (iH:∀b o u,H b=some (.iZ o u)->H' b=some (.iZ o u)) (jX:∀b ps,H b=some (.pP ps)->∃more,H' b=some (.pP (ps++more)))
  (ns:∀m,s.heap.Ns X.env.locals m->h'.Ns X.env.locals m) (aI:cG X.prog X.w H' h') (hg:AllBare g'):
  Inv X pins σ H' {s with heap:=h',gens:=g',drawn:=d',toks:=t'}:=by
 have SE:∀b o,X.s₀.heap.get? b=some o->b≠X.env.locals:=λb o e=>cU (eQ (cc e) I.ok.above)
 have Am:∀b o,X.s₀.heap.get? b=some o->b∉X.ex->b∉ch:=λb o e hx hb=>by
  rcases(ml b hb).1 with z|z
  ·exact hx z
  ·exact absurd (eQ (cc e) z) (kN _)
 have cellK:∀x c,X.env.cells.lookup x=some c->∀v,s.heap.IsCell c v->h'.IsCell c v:=λx c e v ⟨o,ho,hd⟩=>by
  have xi:c∉ch:=λz=>(ml c z).2.2.1 x c e rfl
  by_cases hc:c∈X.fs
  ·obtain⟨sl,q⟩:=slot c o (I.nF x c e) hc xi ho (I.gh x c e)
   exact⟨_,q,hd⟩
  ·exact⟨o,keep c o (I.nF x c e) hc xi ho (I.gh x c e),hd⟩
 refine⟨I.ok,I.os,hg,⟨λb o e n hb hx=>?_,λb o e n hb hx=>?_,λb o e n hx=>?_,λb o e hx=>?_,λb xs e=>i_ b xs (I.base.i_ b xs e),λb o xs e=>iH b o xs (I.base.iH b o xs e),λb ps e=>?_⟩,?_,λx c e=>?_,?_,λx c e=>?_,λp hp=>?_,aI,I.len⟩
 ·exact keep b o (SE b o e) hb (Am b o e hx) (I.base.keep b o e n hb hx) (I.base.free b o e n hx)
 ·obtain⟨sl,e1⟩:=I.base.slot b o e n hb hx
  obtain⟨sl',e2⟩:=slot b _ (SE b o e) hb (Am b o e hx) e1 (I.base.free b o e n hx)
  exact⟨sl',e2⟩
 ·obtain⟨o',e1⟩:=I.base.there b o e hx
  exact free b o' (Am b o e hx) e1 (I.base.free b o e n hx)
 ·obtain⟨o',e1⟩:=I.base.there b o e hx
  exact there b o' (Am b o e hx) e1
 ·obtain⟨m1,e1⟩:=I.base.jX b ps e
  obtain⟨m2,e2⟩:=jX b _ e1
  exact⟨m1++m2,by rw[e2,Array.append_assoc]⟩
 ·obtain⟨m,hn,hl⟩:=I.loc
  refine⟨m,ns m hn,λi x v e1 e2 e3=>?_⟩
  obtain⟨u,r,l⟩:=hl i x v e1 e2 e3
  refine⟨u,r,?_⟩
  rcases l with l| ⟨k,c,e,z⟩
  ·exact .inl l
  ·exact .inr ⟨k,c,e,cellK x c e _ z⟩
 ·obtain⟨v,z⟩:=I.cell x c e
  exact⟨v,cellK x c e v z⟩
 ·obtain⟨m,⟨o,_,_,ho,_⟩,_⟩:=I.loc
  exact free _ o (λz=>(ml _ z).2.1 rfl) ho I.free
 ·obtain⟨v,o,ho,hd⟩:=I.cell x c e
  exact free c o (λz=>(ml c z).2.2.1 x c e rfl) ho (I.gh x c e)
 ·obtain⟨e,n,ne,nf,d⟩:=I.pin p hp
  have xi:p.1∉ch:=λz=>(ml p.1 z).2.2.2 p hp rfl
  exact⟨keep p.1 p.2 ne nf xi e n,free p.1 p.2 xi e n,ne,nf,d⟩
theorem Inv.un{t':Nat}(I:Inv X pins σ H s)(u:Un X.fs [] H H' s.heap h')(aI:cG X.prog X.w H' h'):Inv X pins σ H' {s with heap:=h',toks:=t'}:=by
 obtain⟨m,⟨o,es,ep,ho,r⟩,_⟩:=id I.loc
 obtain⟨sl,hL⟩:=u.any ho I.free (by simp)
 exact I.step (g':=s.gens) (d':=s.drawn) (ch:=[]) (λ_ z=>nomatch z) (λb o _ hb _ e n=>u.keep b o e n hb (by simp)) (λb o _ hb _ e n=>u.slot b o e n hb (by simp)) (λb o _ e n=>u.free b o e n (by simp)) (λb o _ e=>u.there b o e (by simp)) u.i_ u.iH u.jX (λm' hm=>by
  obtain⟨o',dR,zc,jQ,r'⟩:=hm
  rw[ho]at jQ;cases jQ
  exact⟨_,dR,zc,hL,r'⟩) aI I.bare
theorem Inv.call{g':Array GenState}{t':Nat}{d':Drawn}(I:Inv X pins σ H s)(u:Un (eG X.stack) ch H H' s.heap h')(aI:cG X.prog X.w H' h')(hg:AllBare g')
  (ml:∀b∈ch,(b∈X.ex\/X.s₀.heap.objs.size<=b)/\b≠X.env.locals/\(∀x c,X.env.cells.lookup x=some c->c≠b)/\∀p∈X.pn++pins,p.1≠b):
  Inv X pins σ H' {s with heap:=h',gens:=g',drawn:=d',toks:=t'}:=by
 obtain⟨m,⟨o,es,ep,ho,r⟩,_⟩:=id I.loc
 obtain⟨sl,hL⟩:=u.any ho I.free λz=>(ml _ z).2.1 rfl
 exact I.step (ch:=ch) ml (λb o hL hb hc e n=>u.keep b o e n (λz=>(hZ.mp (I.AV b z)).elim hL hb) hc) (λb o _ _ hc e n=>u.any e n hc) (λb o hc e n=>u.free b o e n hc) (λb o hc e=>u.there b o e hc) u.i_ u.iH u.jX (λm' hm=>by
  obtain⟨o',dR,zc,jQ,r'⟩:=hm
  rw[ho]at jQ;cases jQ
  exact⟨_,dR,zc,hL,r'⟩) aI hg
theorem Inv.turned{t':Nat}{it:ah}(I:Inv X pins σ H s)(k:∀b o,b≠it->s.heap.get? b=some o->h'.get? b=some o)(hn:H it=none)(hL:it≠X.env.locals)
  (h1:it∈X.ex\/X.s₀.heap.objs.size<=it) (h2:∀x c,X.env.cells.lookup x=some c->c≠it) (h3:∀p∈X.pn++pins,p.1≠it):Inv X pins σ H {s with heap:=h',toks:=t'}:=by
 have SI:∀b u,H b=some u->b≠it:=λb u e z=>by rw[z,hn]at e;cases e
 refine I.step (g':=s.gens) (d':=s.drawn) (ch:=[it]) (λb hb=>?_) (λb o _ _ hc e _=>k b o (λz=>hc (by simp[z])) e) (λb o _ _ hc e _=>⟨o.slots,k b o (λz=>hc (by simp[z])) e⟩) (λ_ _ _ _ n=>n)
  (λb o hc e=>⟨o,k b o (λz=>hc (by simp[z])) e⟩) (λ_ _ e=>e) (λ_ _ _ e=>e) (λb ps e=>⟨#[],by rw[e];simp⟩) (λm hm=>?_) (λb u e=>?_) I.bare
 ·have e:b=it:=by simpa using hb
  subst e
  exact⟨h1,hL,h2,h3⟩
 ·obtain⟨o,es,ep,ho,r⟩:=hm
  exact⟨o,es,ep,k _ o (gH hL) ho,r⟩
 ·refine(I.aI b u e).lK (λc v hc q=>k c v ?_ q) (λ_ q=>q) λ_ _ q=>q
  rcases hc with z|z
  ·rw[z];exact SI b u e
  ·exact SI c _ z
theorem Inv.tok(I:Inv X pins σ H s)(t:Nat):Inv X pins σ H {s with toks:=t}:=I.un (h':=s.heap) (t':=t) Un.refl I.aI
theorem Inv.kept{t':Nat}(I:Inv X pins σ H s)(k:∀b u,s.heap.get? b=some u->h'.get? b=some u):Inv X pins σ H {s with heap:=h',toks:=t'}:=I.un (Un.kept k) (I.aI.kept k)
theorem Inv.laid{o:HO}{t':Nat}(I:Inv X pins σ H s)(k:∀b u,s.heap.get? b=some u->h'.get? b=some u)(hp:s.heap.objs.size<=a)(new:c8 X.prog X.w (upd H a o) h' a o):
  Inv X pins σ (upd H a o) {s with heap:=h',toks:=t'}:=I.un (Un.laid k hp (I.aI.fresh hp)) (I.aI.laid k hp new)
theorem Inv.write{x e:ah}{o:HO}{t':Nat}(I:Inv X pins σ H s)(mu:vp (H x))(he:e=x\/H e=some (.own x))(k:∀b u,b≠e->s.heap.get? b=some u->h'.get? b=some u)(tG:∃u,h'.get? e=some u)
  (new:c8 X.prog X.w (upd H x o) h' x o):Inv X pins σ (upd H x o) {s with heap:=h',toks:=t'}:=I.un (Un.write mu he k tG) (I.aI.write mu he k tG new)
theorem Inv.weak{σ':aa (ae V)}(I:Inv X pins σ H s)(hl:σ'.length=σ.length)(w:∀(i:Nat) v,σ'[i]?=some (some v)->σ[i]?=some (some v)):Inv X pins σ' H s:=
 ⟨I.ok,I.os,I.bare,I.base,let⟨m,hn,wu⟩:=I.loc;⟨m,hn,λi x v e1 e2 e3=>wu i x v e1 (w i v e2) e3⟩,I.cell,I.free,I.gh,I.pin,I.aI,hl.trans I.len⟩
theorem Inv.xB{xA:aa (ah×Obj)}(I:Inv X pins σ H s)(h:∀p∈xA,s.heap.get? p.1=some p.2/\H p.1=none/\p.1≠X.env.locals/\p.1∉X.fs/\∀v,p.2.data≠.cell v):Inv X xA σ H s:=
 ⟨I.ok,I.os,I.bare,I.base,I.loc,I.cell,I.free,I.gh,λp hp=>(List.mem_append.mp hp).elim (λz=>I.pin p (yJ _ z)) (h p),I.aI,I.len⟩
theorem Ni(hN:N.Nodup)(a:N[i]?=some x)(b:N[j]?=some x):i=j:=by
 obtain⟨h1,e1⟩:=List.getElem?_eq_some_iff.mp a
 obtain⟨h2,e2⟩:=List.getElem?_eq_some_iff.mp b
 exact(List.getElem_inj hN).mp (e1.trans e2.symm)
theorem Vm{M:Model}{A:Around}{E:af->ag->Prop}{Q:Unit->ag->Prop}(I:Inv X pins σ H s)(hN:X.N.Nodup)(hi:X.N[i]?=some x)(hx:Loc X.env.scope x)(r:RelV v u)
  (h:∀s',Inv X pins (σ.set i (some v)) H s'->(∃a,Heap.SameBut a s.heap s'.heap/\(a=X.env.locals\/X.env.cells.lookup x=some a))->Q () s') (hf:X.fn x=true\/X.env.scope.names.lookup x=some .local:=by first|exact .inl rfl|exact .inr rfl|assumption):wpAny M A (storeName X.env x u) Q E s:=by
 obtain⟨m,hn,hl⟩:=id I.loc
 have v_:(X.env.scope.kind== .class||(X.env.scope.kind== .module&&X.env.locals !=X.env.globals))=false:=by rw[I.ok.kind];rfl
 have zB:i<σ.length:=by rw[I.len];exact(List.getElem?_eq_some_iff.mp hi).1
 have nF:=I.nF
 have tracked:∀{a:ah} {h':aj},(∃o,s.heap.get? a=some o/\H a=none)->Heap.SameBut a s.heap h'->cG X.prog X.w H h':=λ{a h'} ha hs b ob e=>by
  obtain⟨_,_,jr⟩:=ha
  refine(I.aI b ob e).lK (λc w' hc q=>(hs.2 c ?_).trans q) (λ_ q=>q) λ_ _ q=>q
  rintro rfl
  rcases hc with rfl|hc
  ·rw[jr]at e;cases e
  ·rw[jr]at hc;cases hc
 rcases hx with hk|hk
 ·refine wpAny_storeName_local hk hn (λh' qI hs=>?_) v_
  obtain⟨oL,_,_,wJ,_⟩:=id hn
  refine h _ ⟨I.ok,I.os,I.bare,⟨λb o e n hb hx=>?_,λb o e n hb hx=>?_,I.base.free,λb o e hx=>?_,I.base.i_,I.base.iH,I.base.jX⟩,⟨_,qI,λj y v' e1 e2 e3=>?_⟩,λy c e=>?_,I.free,I.gh,λp hp=>?_,tracked ⟨oL,wJ,I.free⟩ hs,by simpa using I.len⟩ ⟨_,hs,.inl rfl⟩
  ·exact(hs.2 b (cU (eQ (cc e) I.ok.above))).trans (I.base.keep b o e n hb hx)
  ·obtain⟨sl,e1⟩:=I.base.slot b o e n hb hx
   exact⟨sl,(hs.2 b (cU (eQ (cc e) I.ok.above))).trans e1⟩
  ·obtain⟨o',e1⟩:=I.base.there b o e hx
   exact⟨o',(hs.2 b (cU (eQ (cc e) I.ok.above))).trans e1⟩
  ·by_cases hj:j=i
   ·subst hj
    rw[hi]at e1;cases e1
    rw[u0 zB]at e2
    cases e2
    exact⟨u,r,.inl ⟨hk,by simp⟩⟩
   ·rw[yG (gH hj)]at e2
    obtain⟨u',r',q⟩:=hl j y v' e1 e2 e3
    refine⟨u',r',?_⟩
    rcases q with⟨k,e⟩ | ⟨k,c,e,z⟩
    ·refine .inl ⟨k,?_⟩
     have:y≠x:=λe=>hj (Ni hN e1 (e▸hi))
     simp[this,e]
    ·exact .inr ⟨k,c,e,z.sameBut hs (nF y c e)⟩
  ·obtain⟨w',z⟩:=I.cell y c e
   exact⟨w',z.sameBut hs (nF y c e)⟩
  ·obtain⟨e,n,ne,nf,d⟩:=I.pin p hp
   exact⟨(hs.2 p.1 ne).trans e,n,ne,nf,d⟩
 ·have Eb:X.fn x=true:=by
   rcases hf with z|z
   ·exact z
   ·rw[z]at hk;cases hk
  obtain⟨c,hc⟩:=I.ok.has x (.inl hk)
  obtain⟨w',z⟩:=I.cell x c hc
  refine wpAny_storeName_cell I.ok.kind hk hc z (λh' v8 hs=>?_)
  obtain⟨oc,jR,aab⟩:=id z
  refine h {s with heap:=h'} ⟨I.ok,I.os,I.bare,⟨λb o e n hb hx=>?_,λb o e n hb hx=>?_,I.base.free,λb o e hx=>?_,I.base.i_,I.base.iH,I.base.jX⟩,⟨m,hn.sameBut hs (gH (nF x c hc)),λj y v' e1 e2 e3=>?_⟩,λy c' e=>?_,I.free,I.gh,λp hp=>?_,tracked ⟨oc,jR,I.gh x c hc⟩ hs,by simpa using I.len⟩ ⟨c,hs,.inr hc⟩
  ·exact(hs.2 b (cU (eQ (cc e) (I.ok.ma x c Eb hc)))).trans (I.base.keep b o e n hb hx)
  ·obtain⟨sl,e1⟩:=I.base.slot b o e n hb hx
   exact⟨sl,(hs.2 b (cU (eQ (cc e) (I.ok.ma x c Eb hc)))).trans e1⟩
  ·obtain⟨o',e1⟩:=I.base.there b o e hx
   exact⟨o',(hs.2 b (cU (eQ (cc e) (I.ok.ma x c Eb hc)))).trans e1⟩
  ·by_cases hj:j=i
   ·subst hj
    rw[hi]at e1;cases e1
    rw[u0 zB]at e2
    cases e2
    exact⟨u,r,.inr ⟨.inl hk,c,hc,v8⟩⟩
   ·rw[yG (gH hj)]at e2
    obtain⟨u',r',q⟩:=hl j y v' e1 e2 e3
    refine⟨u',r',?_⟩
    rcases q with q| ⟨k,c',e,z'⟩
    ·exact .inl q
    ·refine .inr ⟨k,c',e,z'.sameBut hs ?_⟩
     rintro rfl
     exact hj (Ni hN e1 (I.ok.inj _ _ _ e hc▸hi))
  ·by_cases Qo:c'=c
   ·subst Qo;exact⟨_,v8⟩
   ·obtain⟨w2,z2⟩:=I.cell y c' e
    exact⟨w2,z2.sameBut hs Qo⟩
  ·obtain⟨e,n,ne,nf,d⟩:=I.pin p hp
   refine⟨(hs.2 p.1 ?_).trans e,n,ne,nf,d⟩
   intro q
   rw[q,jR]at e
   have q':oc=p.2:=cq e
   exact d w' (by rw[<-q'];exact aab)
theorem Bm{M:Model}{A:Around}{E:af->ag->Prop}{Q:Unit->ag->Prop}(I:Inv X pins σ H s)(hN:X.N.Nodup)(hi:X.N[i]?=some x)(hx:Loc X.env.scope x)(r:RelV v u)
  (h:∀s',Inv X pins (σ.set i (some v)) H s'->Q () s') (hf:X.fn x=true\/X.env.scope.names.lookup x=some .local:=by first|exact .inl rfl|exact .inr rfl|assumption):wpAny M A (storeName X.env x u) Q E s:=
 Vm I hN hi hx r (λs' I' _=>h s' I') hf
theorem Inv.vw(I:Inv X pins σ H s)(ho:s'.os=s.os)(u:Un (eG X.stack) ch H H' s.heap s'.heap)(aI:cG X.prog X.w H' s'.heap)(hg:AllBare s'.gens)
  (ml:∀b∈ch,(b∈X.ex\/X.s₀.heap.objs.size<=b)/\b≠X.env.locals/\(∀x c,X.env.cells.lookup x=some c->c≠b)/\∀p∈X.pn++pins,p.1≠b):Inv X pins σ H' s':=by
 obtain⟨h',g',d',t',o'⟩:=s'
 have e:o'=s.os:=ho
 subst e
 exact I.call (g':=g') (t':=t') (d':=d') u aI hg ml
end
noncomputable abbrev XK:=af->ae ah->Hp->Prop
noncomputable abbrev St:=aa (ae V)
noncomputable abbrev VK:=V->Hp->Prop
noncomputable abbrev TE:=St->Hp->VK->Prop
noncomputable abbrev TT:=St->Hp->(ai->Hp->Prop)->Prop
noncomputable abbrev TA:=St->Hp->(aa V->Hp->Prop)->Prop
structure Ends where
 nx:St->Hp->Prop
 rt:VK
 bk:St->Hp->Prop:=λ_ _=>False
 ct:St->Hp->Prop:=λ_ _=>False
noncomputable abbrev TS:=Ends->St->Hp->Prop
noncomputable def EP(X:Cx)(pins:aa (ah×Obj))(σ:St)(Q:VK)(u:af)(s':ag):Prop:=∃v H',Inv X pins σ H' s'/\RelV v u/\Q v H'
noncomputable def TP(X:Cx)(pins:aa (ah×Obj))(σ:St)(Q:ai->Hp->Prop)(b:ai)(s':ag):Prop:=∃H',Inv X pins σ H' s'/\Q b H'
noncomputable def AP(X:Cx)(pins:aa (ah×Obj))(σ:St)(Q:aa V->Hp->Prop)(us:aa af)(s':ag):Prop:=∃vs H',Inv X pins σ H' s'/\Vals vs us/\Q vs H'
noncomputable def SP(X:Cx)(pins:aa (ah×Obj))(D:Ends)(f:Flow)(s':ag):Prop:=
 match f with
 | .next=>∃σ' H',Inv X pins σ' H' s'/\D.nx σ' H'
 | .brk=>∃σ' H',Inv X pins σ' H' s'/\D.bk σ' H'
 | .cont=>∃σ' H',Inv X pins σ' H' s'/\D.ct σ' H'
 | .ret u=>∃v σ' H',Inv X pins σ' H' s'/\RelV v u/\D.rt v H'
structure PE(X:Cx)(e:Expr)(t:TE):Prop where
 ap:∀(pins:List (Addr×Obj)) (s:Shared) (σ:St) (H:Hp) (Q:VK),Inv X pins σ H s->t σ H Q->wpAny (model X.prog X.w) X.A (eval e X.env) (EP X pins σ Q) X.xe s
noncomputable instance{X:Cx}{e:Expr}{t:TE}:CoeFun (PE X e t) λ_=>∀(pins:List (Addr×Obj)) (s:Shared) (σ:St) (H:Hp) (Q:VK),Inv X pins σ H s->t σ H Q->wpAny (model X.prog X.w) X.A (eval e X.env) (EP X pins σ Q) X.xe s:=⟨PE.ap⟩
structure PT(X:Cx)(e:Expr)(t:TT):Prop where
 ap:∀(pins:List (Addr×Obj)) (s:Shared) (σ:St) (H:Hp) (Q:Bool->Hp->Prop),Inv X pins σ H s->t σ H Q->wpAny (model X.prog X.w) X.A (isTrue e X.env (eval e X.env)) (TP X pins σ Q) X.xe s
noncomputable instance{X:Cx}{e:Expr}{t:TT}:CoeFun (PT X e t) λ_=>∀(pins:List (Addr×Obj)) (s:Shared) (σ:St) (H:Hp) (Q:Bool->Hp->Prop),Inv X pins σ H s->t σ H Q->wpAny (model X.prog X.w) X.A (isTrue e X.env (eval e X.env)) (TP X pins σ Q) X.xe s:=⟨PT.ap⟩
noncomputable def PW(X:Cx)(e:Expr)(t:TT):Prop:=
 ∀(whole:Sem af) (pins:aa (ah×Obj)) (s:ag) (σ:St) (H:Hp) (Q:ai->Hp->Prop),Inv X pins σ H s->t σ H Q->wpAny (model X.prog X.w) X.A (isTrue e X.env whole) (TP X pins σ Q) X.xe s
theorem PW.pt{X:Cx}{e:Expr}{t:TT}(h:PW X e t):PT X e t:=.mk (h _)
structure PA(X:Cx)(es:List Expr)(t:TA):Prop where
 ap:∀(pos:Pos) (pins:List (Addr×Obj)) (s:Shared) (σ:St) (H:Hp) (Q:List V->Hp->Prop),Inv X pins σ H s->t σ H Q->wpAny (model X.prog X.w) X.A (spliced (backTo pos (starEach es X.env))) (AP X pins σ Q) X.xe s
noncomputable instance{X:Cx}{es:List Expr}{t:TA}:CoeFun (PA X es t) λ_=>∀(pos:Pos) (pins:List (Addr×Obj)) (s:Shared) (σ:St) (H:Hp) (Q:List V->Hp->Prop),Inv X pins σ H s->t σ H Q->wpAny (model X.prog X.w) X.A (spliced (backTo pos (starEach es X.env))) (AP X pins σ Q) X.xe s:=⟨PA.ap⟩
structure PS(X:Cx)(st:Stmt)(t:TS):Prop where
 ap:∀(pins:List (Addr×Obj)) (s:Shared) (σ:St) (H:Hp) (D:Ends),Inv X pins σ H s->t D σ H->wpAny (model X.prog X.w) X.A (exec st X.env) (SP X pins D) X.xe s
noncomputable instance{X:Cx}{st:Stmt}{t:TS}:CoeFun (PS X st t) λ_=>∀(pins:List (Addr×Obj)) (s:Shared) (σ:St) (H:Hp) (D:Ends),Inv X pins σ H s->t D σ H->wpAny (model X.prog X.w) X.A (exec st X.env) (SP X pins D) X.xe s:=⟨PS.ap⟩
structure gJ(X:Cx)(st:List Stmt)(t:TS):Prop where
 ap:∀(pins:List (Addr×Obj)) (s:Shared) (σ:St) (H:Hp) (D:Ends),Inv X pins σ H s->t D σ H->wpAny (model X.prog X.w) X.A (execs st X.env) (SP X pins D) X.xe s
noncomputable instance{X:Cx}{st:List Stmt}{t:TS}:CoeFun (gJ X st t) λ_=>∀(pins:List (Addr×Obj)) (s:Shared) (σ:St) (H:Hp) (D:Ends),Inv X pins σ H s->t D σ H->wpAny (model X.prog X.w) X.A (execs st X.env) (SP X pins D) X.xe s:=⟨gJ.ap⟩
theorem aO{α:Type}{t:Sem α}{Q Q':α->ag->Prop}(h:wpAny M A t Q E s)(hQ:∀a s,Q a s->Q' a s):wpAny M A t Q' E s:=gU h hQ λ_ _ x=>x
end L2
variable {X:L2.Cx} {σ σ0:L2.St} {t:L2.TA} {ta te tv td:L2.TE} {tb:L2.TS} {D:L2.Ends} {tc:L2.TT}
namespace L2
open PySem PySem.Spec PyProof.Rows
section
theorem bin{a b:Expr}{tb:TE}(ha:PE X a ta)(hb:PE X b tb){R:V->V->Hp->Prop}(I:Inv X pins σ H s)(h:ta σ H λx H1=>tb σ H1 λy H2=>R x y H2)
  {α:Type} {Q:α->ag->Prop} {f:af->af->Sem α}
  (hf:∀v u s2 x y H2,Inv X pins σ H2 s2->RelV x v->RelV y u->R x y H2->wpAny (model X.prog X.w) X.A (f v u) Q X.xe s2):
  wpAny (model X.prog X.w) X.A (eval a X.env) (λv s₁=>wpAny (model X.prog X.w) X.A (eval b X.env) (λu s₂=>wpAny (model X.prog X.w) X.A (f v u) Q X.xe s₂) X.xe s₁) X.xe s:=by
 refine aO (ha pins s σ H _ I h) λv s1 ⟨x,H1,I1,r1,q1⟩=>?_
 refine aO (hb pins s1 σ H1 _ I1 q1) λu s2 ⟨y,H2,I2,r2,q2⟩=>?_
 exact hf v u s2 x y H2 I2 r1 r2 q2
noncomputable def aW(i:Nat):TE:=λσ H Q=>∃v,σ[i]?=some (some v)/\Q v H
noncomputable def tC(v:V):TE:=λ_ H Q=>Q v H
theorem S6(hN:X.N[i]?=some x)(hv:yV X.env.scope x)(hd:(x==("__debug__":Str))=false:=by decide)(ku:(x==("__classdict__":Str))=false:=by decide):PE X (.Name x pos) (aW i):=by
 refine .mk ?_;intro pins s σ H Q I h
 obtain⟨v,e,h⟩:=h
 obtain⟨m,hn,hl⟩:=I.loc
 obtain⟨u,r,l⟩:=hl i x v hN e hv
 have fin:EP X pins σ Q u s:=⟨v,H,I,r,h⟩
 rcases l with⟨hk,hm⟩ | ⟨hk,c,hc,kZ⟩
 ·exact wpAny_Name (wpAny_loadName_local I.ok.kind hk hn hm fin) hd
 ·rcases hk with hk|hk
  ·exact wpAny_Name (wpAny_loadName_cell I.ok.kind hk hc kZ fin) hd
  ·exact wpAny_Name (wpAny_loadName_free I.ok.kind hk hc kZ fin ku) hd
theorem aF{i j pos}:PE X (.Constant (.int i) j pos) (tC (.int i)):=.mk λ_ _ _ H _ I h=>wpAny_Constant_int ⟨.int i,H,I.tok _,⟨_,rfl⟩,h⟩
theorem iA{b j pos}:PE X (.Constant (.bool b) j pos) (tC (.bl b)):=.mk λ_ _ _ H _ I h=>Constant_bool ⟨.bl b,H,I,rfl,h⟩
theorem g_{j pos}:PE X (.Constant .none j pos) (tC .aE):=.mk λ_ _ _ H _ I h=>Constant_none ⟨.aE,H,I,rfl,h⟩
theorem aJ{x j pos}:PE X (.Constant (.str x) j pos) (tC (.str x)):=.mk λ_ _ _ H _ I h=>Calls.Constant_str ⟨.str x,H,I.tok _,⟨_,rfl⟩,h⟩
noncomputable def Gl(X:Cx)(x:Str):Prop:=X.env.kindOf x=some .globalImplicit
theorem rN{E:af->ag->Prop}{pos:Pos}(I:Inv X pins σ H s)(hg:Gl X x)(hm:X.mg x=some u)(h:Q u s)
  (hd:(x==("__debug__":Str))=false:=by decide):wpAny (model X.prog X.w) X.A (eval (.Name x pos) X.env) Q E s:=
 Calls.Name_function_global I.ok.kind hg (Calls.loadGlobal_global (by rw[I.ok.glob];exact I.mod.glob.keeps I.bk) hm h) hd
theorem yr{E:af->ag->Prop}{pos:Pos}(I:Inv X pins σ H s)(hg:Gl X x)(hm:X.mg x=none)(hv:bootBuiltins x=some u)(h:Q u s)
  (hn:x≠"__name__":=by decide) (hd:(x==("__debug__":Str))=false:=by decide):wpAny (model X.prog X.w) X.A (eval (.Name x pos) X.env) Q E s:=by
 obtain⟨mb,h1,h2⟩:=I.mod.blt
 exact Calls.Name_function_global I.ok.kind hg (Calls.loadGlobal_builtin (by rw[I.ok.glob];exact I.mod.glob.keeps I.bk) hm (by rw[I.ok.blt];exact h1.keeps I.bk) ((h2 x hn).trans hv) h) hd
theorem Oa(hg:Gl X x)(hm:X.mg x=some u)(r:RelV v u)(hd:(x==("__debug__":Str))=false:=by decide):PE X (.Name x pos) (tC v):=
 .mk λ_ _ _ H _ I h=>rN I hg hm ⟨v,H,I,r,h⟩ hd
theorem oG(hg:Gl X x)(hm:X.mg x=none)(hv:bootBuiltins x=some u)(r:RelV v u)(hn:x≠"__name__":=by decide)(hd:(x==("__debug__":Str))=false:=by decide):PE X (.Name x pos) (tC v):=
 .mk λ_ _ _ H _ I h=>yr I hg hm hv ⟨v,H,I,r,h⟩ hn hd
noncomputable def t2I(ta tb:TE)(k:Int->Int->Hp->Prop):St->Hp->Prop:=λσ H=>ta σ H λx H1=>tb σ H1 λy H2=>∃i j,x= .int i/\y= .int j/\k i j H2
variable {a b:Expr} {tb:TE}
noncomputable def PC(X:Cx)(op:CmpOp)(a b:Expr)(t:TE):Prop:=
 ∀(pins:aa (ah×Obj)) (s:ag) (σ:St) (H:Hp) (Q:VK),Inv X pins σ H s->t σ H Q->
  wpAny (model X.prog X.w) X.A (eval a X.env) (λv s₁=>wpAny (model X.prog X.w) X.A (eval b X.env) (λu s₂=>wpAny (model X.prog X.w) X.A (compareOp op v u) (EP X pins σ Q) X.xe s₂) X.xe s₁) X.xe s
theorem VS(b:Expr)(h:op≠.In)(h2:op≠.NotIn):behindInMarks op b=false:=by
 have e1:(op==CmpOp.In)=false:=by cases op<;>first|rfl|exact absurd rfl h
 have e2:(op==CmpOp.NotIn)=false:=by cases op<;>first|rfl|exact absurd rfl h2
 cases b<;>simp[behindInMarks,e1,e2]
noncomputable def TY(p:Int->Int->ai)(ta tb:TE):TE:=λσ H Q=>t2I ta tb (λi j H2=>Q (.bl (p i j)) H2) σ H
noncomputable abbrev tGt:TE->TE->TE:=TY λi j=>decide (j<i)
theorem adO{op:CmpOp}{p:Int->Int->ai}(ha:PE X a ta)(hb:PE X b tb)
  (rule:∀(i j:Int) (t u:Tok) (Q:af->ag->Prop) (s:ag),Q (.bool (p i j)) s->wpAny (model X.prog X.w) X.A (compareOp op (.int i t) (.int j u)) Q X.xe s):PC X op a b (TY p ta tb):=by
 intro pins s σ H Q I h
 refine bin ha hb I h λv u s2 x y H2 I2 rx ry q=>?_
 obtain⟨i,j,rfl,rfl,q⟩:=q
 obtain⟨t,rfl⟩:=rx
 obtain⟨t',rfl⟩:=ry
 exact rule i j t t' _ s2 ⟨.bl _,H2,I2,rfl,q⟩
theorem adN(ha:PE X a ta)(hb:PE X b tb):PC X .Gt a b (tGt ta tb):=adO ha hb λ_ _ _ _ _ _ h=>gt_int h
noncomputable def T4(ta:TE):TE:=λσ H Q=>ta σ H λx H1=>Q (.bl (decide (x= .aE))) H1
noncomputable def agP(ta:TE):TE:=λσ H Q=>ta σ H λx H1=>Q (.bl (!decide (x= .aE))) H1
theorem RelV.SK{x:V}{v:af}(r:RelV x v):(v==Value.none)=decide (x= .aE):=by
 cases x with
 |aE=>cases r;rfl
 |bl _=>cases r;rfl
 |int _=>obtain⟨t,rfl⟩:=r;rfl
 |str _=>obtain⟨t,rfl⟩:=r;rfl
 |iF _=>obtain⟨t,rfl⟩:=r;rfl
 |nH _=>obtain⟨t,rfl⟩:=r;rfl
 |ref _=>cases r;rfl
 |ty _=>cases r;rfl
theorem jA{j pos'}(ha:PE X a ta):PC X .Is a (.Constant .none j pos') (T4 ta):=by
 intro pins s σ H Q I h
 refine aO (ha pins s σ H _ I h) λv s1 ⟨x,H1,I1,r1,q1⟩=>?_
 exact Constant_none (is_none_gen ⟨.bl _,H1,I1,by rw[r1.SK];rfl,q1⟩)
theorem rP{j pos'}(ha:PE X a ta):PC X .IsNot a (.Constant .none j pos') (agP ta):=by
 intro pins s σ H Q I h
 refine aO (ha pins s σ H _ I h) λv s1 ⟨x,H1,I1,r1,q1⟩=>?_
 exact Constant_none (isnot_none_gen ⟨.bl _,H1,I1,by rw[r1.SK];rfl,q1⟩)
noncomputable def tB(t:TE):TT:=λσ H Q=>t σ H λx H1=>∃c,x= .bl c/\Q c H1
theorem Oj{t:TE}(h:PC X op a b t)(h1:behindInMarks op b=false:=by first|exact VS _ (by decide) (by decide) |rfl):PE X (.Compare a [op] [b] pos) t:=.mk λpins s σ H Q I hw=>wpAny_Compare1 (h pins s σ H Q I hw) h1
theorem gB{t:TE}(h:PC X op a b t)(h1:behindInMarks op b=false:=by first|exact VS _ (by decide) (by decide) |rfl):PT X (.Compare a [op] [b] pos) (tB t):=by
 refine .mk ?_;intro pins s σ H Q I hw
 refine wpAny_isTrue_Compare1 (aO (h pins s σ H _ I hw) λv s1 h1=>aO h1 λu s2 h2=>aO h2 λc s3 ⟨x,H1,I1,r1,q1⟩=>?_) h1
 obtain⟨d,rfl,q⟩:=q1
 cases r1
 exact nq ⟨H1,I1,q⟩
theorem e8{e:Expr}{t:TE}(h:PE X e t)(he:∀whole,isTrue e X.env whole=(do let v <-whole;standAt e.pos;holding [v] (truthy v)):=by intro _;rfl):PT X e (tB t):=by
 refine .mk ?_;intro pins s σ H Q I hw
 refine isTrue_plain (aO (h pins s σ H _ I hw) λv s1 ⟨x,H1,I1,r1,q1⟩=>?_) (he _)
 obtain⟨d,rfl,q⟩:=q1
 cases r1
 exact nq ⟨H1,I1,q⟩
variable {tA AW:TT}
noncomputable def TX(t u:TT):TT:=λσ H Q=>t σ H λc H1=>if c=true then u σ H1 Q else Q false H1
noncomputable def L5(t u:TT):TT:=λσ H Q=>t σ H λc H1=>if c=true then Q true H1 else u σ H1 Q
noncomputable def agO(t:TT):TT:=λσ H Q=>t σ H λc H1=>Q (!c) H1
theorem jD(ha:PT X a tA):PW X (.BoolOp .And [a] pos) tA:=by
 intro wh pins s σ H Q I h
 refine isTrue_and (aO (ha pins s σ H Q I h) λc s1 e=>?_)
 cases c with
 |true=>exact isTrue_and_nil e
 |false=>exact e
theorem jz(ha:PT X a tA):PW X (.BoolOp .Or [a] pos) tA:=by
 intro wh pins s σ H Q I h
 refine isTrue_or (aO (ha pins s σ H Q I h) λc s1 e=>?_)
 cases c with
 |false=>exact isTrue_or_nil e
 |true=>exact e
theorem iR(ha:PT X a tA)(hb:PW X (.BoolOp .And (b::rest) pos) AW):PW X (.BoolOp .And (a::b::rest) pos) (TX tA AW):=by
 intro wh pins s σ H Q I h
 refine isTrue_and (aO (ha pins s σ H _ I h) λc s1 ⟨H1,I1,q1⟩=>?_)
 cases c with
 |true=>exact hb wh pins s1 σ H1 Q I1 q1
 |false=>exact⟨H1,I1,q1⟩
theorem jE(ha:PT X a tA)(hb:PW X (.BoolOp .Or (b::rest) pos) AW):PW X (.BoolOp .Or (a::b::rest) pos) (L5 tA AW):=by
 intro wh pins s σ H Q I h
 refine isTrue_or (aO (ha pins s σ H _ I h) λc s1 ⟨H1,I1,q1⟩=>?_)
 cases c with
 |true=>exact⟨H1,I1,q1⟩
 |false=>exact hb wh pins s1 σ H1 Q I1 q1
theorem jd(ha:PT X a tA):PT X (.UnaryOp .Not a pos) (agO tA):=by
 refine .mk ?_;intro pins s σ H Q I h
 exact isTrue_not (ha pins s σ H (λc H1=>Q (!c) H1) I h)
noncomputable def L1(ta tb:TE):TE:=λσ H Q=>ta σ H λx H1=>∃c,x= .bl c/\if c=true then tb σ H1 Q else Q (.bl false) H1
noncomputable def T7(ta tb:TE):TE:=λσ H Q=>ta σ H λx H1=>∃c,x= .bl c/\if c=true then Q (.bl true) H1 else tb σ H1 Q
theorem r_{op}{t:TE}(h:PE X a t):PE X (.BoolOp op [a] pos) t:=.mk λpins s σ H Q I hw=>BoolOp_one (h pins s σ H Q I hw)
theorem yy(ha:PE X a ta)(hb:PE X (.BoolOp .And (b::rest) pos) tb):PE X (.BoolOp .And (a::b::rest) pos) (L1 ta tb):=by
 refine .mk ?_;intro pins s σ H Q I h
 refine BoolOp_and (aO (ha pins s σ H _ I h) λv s1 ⟨x,H1,I1,r1,q1⟩=>?_)
 obtain⟨c,rfl,q1⟩:=q1
 cases r1
 refine nq ?_
 cases c with
 |true=>exact hb pins s1 σ H1 Q I1 q1
 |false=>exact⟨.bl false,H1,I1,rfl,q1⟩
theorem FT(ha:PE X a ta)(hb:PE X (.BoolOp .Or (b::rest) pos) tb):PE X (.BoolOp .Or (a::b::rest) pos) (T7 ta tb):=by
 refine .mk ?_;intro pins s σ H Q I h
 refine BoolOp_or (aO (ha pins s σ H _ I h) λv s1 ⟨x,H1,I1,r1,q1⟩=>?_)
 obtain⟨c,rfl,q1⟩:=q1
 cases r1
 refine nq ?_
 cases c with
 |false=>exact hb pins s1 σ H1 Q I1 q1
 |true=>exact⟨.bl true,H1,I1,rfl,q1⟩
noncomputable def tIf(t:TT)(ta tb:TE):TE:=λσ H Q=>t σ H λc H1=>if c=true then ta σ H1 Q else tb σ H1 Q
theorem rS{c:Expr}(hc:PT X c tA)(ha:PE X a ta)(hb:PE X b tb):PE X (.IfExp c a b pos) (tIf tA ta tb):=by
 refine .mk ?_;intro pins s σ H Q I h
 refine wpAny_IfExp (aO (hc pins s σ H _ I h) λd s1 ⟨H1,I1,q1⟩=>?_)
 cases d with
 |true=>exact ha pins s1 σ H1 Q I1 q1
 |false=>exact hb pins s1 σ H1 Q I1 q1
end
noncomputable def aK(K:W.Frag)(H:Hp)(a:ah)(xs:aa V):Prop:=
 Rd H a (.lst xs)\/
  ∃(o:Obj) (its:Array af) (n:Nat),K.lookup a=some o/\o.cls= .type "list"/\o.dict=none/\o.data= .seq its n/\its.size<=sizeLine/\Vals xs its.toList
noncomputable def aM(K:W.Frag)(H:Hp)(a:ah)(xs:aa V):Prop:=
 Rd H a (.tup xs)\/
  ∃(o:Obj) (its:Array af) (n:Nat),K.lookup a=some o/\o.cls= .type "tuple"/\o.data= .seq its n/\its.size<=sizeLine/\Vals xs its.toList
noncomputable def Xm:af->ae V
 | .none=>some .aE
 | .bool b=>some (.bl b)
 | .int i _=>some (.int i)
 | .str x _=>some (.str x)
 | .bytes b _=>some (.iF b)
 | .float b _=>some (.nH b)
 | .ref a=>some (.ref a)
 | .type n=>some (.ty n)
 |_=>none
theorem RelV.abs{x:V}(r:RelV x u):Xm u=some x:=by
 cases x with
 |aE=>cases r;rfl
 |bl _=>cases r;rfl
 |int _=>obtain⟨t,rfl⟩:=r;rfl
 |str _=>obtain⟨t,rfl⟩:=r;rfl
 |iF _=>obtain⟨t,rfl⟩:=r;rfl
 |nH _=>obtain⟨t,rfl⟩:=r;rfl
 |ref _=>cases r;rfl
 |ty _=>cases r;rfl
theorem RelV.inj{x y:V}(r:RelV x u)(q:RelV y u):x=y:=cq (r.abs.symm.trans q.abs)
theorem Vals.inj:∀{xs ys:aa V} {us:aa af},Vals xs us->Vals ys us->xs=ys
 |_,_,_,.nil,.nil=>rfl
 |_,_,_,.cons r t,.cons r' t'=>by rw[r.inj r',Vals.inj t t']
section
variable {pins:aa (ah×Obj)} {xs:aa V}
theorem aK.of(h:H a=some (.lst xs)):aK K H a xs:=.inl (.inl h)
theorem aM.of(h:H a=some (.tup xs)):aM K H a xs:=.inl (.inl h)
theorem Inv.list(I:Inv X pins σ H s)(h:aK X.K H a xs):∃its:aa af,Vals xs its/\PlainL s.heap a its.toArray/\xs.length<=sizeLine:=by
 rcases h with h| ⟨o,its,n,hk,hc,hd,hs,hz,r⟩
 ·obtain⟨z,its,n,r,e⟩:=h.ok I.aI
  exact⟨its,r,⟨_,n,e,rfl,rfl,rfl⟩,z⟩
 ·refine⟨its.toList,r,⟨o,n,I.dS a o hk,hc,hd,by simpa using hs⟩,?_⟩
  have e:=r.length
  simp only[gT]at e
  omega
theorem Inv.tuple(I:Inv X pins σ H s)(h:aM X.K H a xs):∃its:aa af,Vals xs its/\IsTup s.heap a its.toArray/\xs.length<=sizeLine:=by
 rcases h with h| ⟨o,its,n,hk,hc,hs,hz,r⟩
 ·obtain⟨z,its,r,p⟩:=h.ok I.aI
  exact⟨its,r,p,z⟩
 ·refine⟨its.toList,r,⟨o,I.dS a o hk,hc,n,by simpa using hs⟩,?_⟩
  have e:=r.length
  simp only[gT]at e
  omega
theorem Inv.acz(I:Inv X pins σ H s)(h:aK X.K H a xs)(h':aK X.K H a ys):xs=ys:=by
 obtain⟨its,r,⟨o,n,e,_,_,d⟩,_⟩:=I.list h
 obtain⟨its',r',⟨o',n',e',_,_,d'⟩,_⟩:=I.list h'
 rw[e]at e';cases e'
 rw[d]at d'
 injection d' with d1 _
 have:its=its':=by simpa using dA Array.toList d1
 subst this
 exact r.inj r'
theorem Inv.ag4(I:Inv X pins σ H s)(h:aM X.K H a xs)(h':aM X.K H a ys):xs=ys:=by
 obtain⟨its,r,⟨o,e,_,n,d⟩,_⟩:=I.tuple h
 obtain⟨its',r',⟨o',e',_,n',d'⟩,_⟩:=I.tuple h'
 rw[e]at e';cases e'
 rw[d]at d'
 injection d' with d1 _
 have:its=its':=by simpa using dA Array.toList d1
 subst this
 exact r.inj r'
end
noncomputable abbrev Cx.lM(X:Cx)(E:af->ag->Prop):Cx:={X with xe:=E}
noncomputable abbrev Cx.t7(X:Cx):Cx:=X.lM λ_ _=>False
theorem Cx.Ok.lM(ok:X.Ok)(E:af->ag->Prop):(X.lM E).Ok:=
 ⟨ok.mod,ok.kind,ok.glob,ok.blt,ok.above,ok.inj,ok.has,ok.ma,ok.hd,ok.frames,ok.rB,ok.vG,ok.bs,ok.kU,ok.pJ,ok.qv,ok.i0,ok.mi⟩
theorem Cx.Ok.oq(ok:(X.lM E).Ok):X.Ok:=
 ⟨ok.mod,ok.kind,ok.glob,ok.blt,ok.above,ok.inj,ok.has,ok.ma,ok.hd,ok.frames,ok.rB,ok.vG,ok.bs,ok.kU,ok.pJ,ok.qv,ok.i0,ok.mi⟩
section
variable {pins:aa (ah×Obj)}
theorem Inv.lM(I:Inv X pins σ H s)(E:af->ag->Prop):Inv (X.lM E) pins σ H s:=⟨I.ok.lM E,I.os,I.bare,I.base,I.loc,I.cell,I.free,I.gh,I.pin,I.aI,I.len⟩
theorem Inv.oq(I:Inv (X.lM E) pins σ H s):Inv X pins σ H s:=⟨I.ok.oq,I.os,I.bare,I.base,I.loc,I.cell,I.free,I.gh,I.pin,I.aI,I.len⟩
theorem SP.oq{f:Flow}(h:SP (X.lM E) pins D f s'):SP X pins D f s':=by
 cases f with
 |next=>obtain⟨σ',H',I,q⟩:=h;exact⟨σ',H',I.oq,q⟩
 |brk=>obtain⟨σ',H',I,q⟩:=h;exact⟨σ',H',I.oq,q⟩
 |cont=>obtain⟨σ',H',I,q⟩:=h;exact⟨σ',H',I.oq,q⟩
 |ret u=>obtain⟨v,σ',H',I,r,q⟩:=h;exact⟨v,σ',H',I.oq,r,q⟩
theorem gJ.t7{st:aa Stmt}{t:TS}(h:gJ X.t7 st t):gJ X st t:=.mk λpins s σ H D I hw=>
 gU (h pins s σ H D (I.lM _) hw) (λ_ _ q=>q.oq) λ_ _ z=>False.elim z
end
section
variable {rest:aa Stmt} {t u:TS} {e:Expr}
noncomputable def T6:TS:=λD σ H=>D.nx σ H
noncomputable def oj(t u:TS):TS:=λD σ H=>t {D with nx:=u D} σ H
theorem bZ:gJ X [] T6:=.mk λ_ _ σ H _ I h=>yO ⟨σ,H,I,h⟩
theorem az(h1:PS X st t)(h2:gJ X rest u):gJ X (st::rest) (oj t u):=by
 refine .mk ?_;intro pins s σ H D I h
 refine wpAny_execs_cons (aO (h1 pins s σ H {D with nx:=u D} I h) λf s1 q=>?_)
 cases f with
 |next=>
  obtain⟨σ',H',I',q⟩:=q
  exact h2 pins s1 σ' H' D I' q
 |ret v=>exact q
 |brk=>exact q
 |cont=>exact q
theorem aD(h1:PS X st t):gJ X [st] t:=by
 refine .mk ?_;intro pins s σ H D I h
 refine wpAny_execs_cons (aO (h1 pins s σ H D I h) λf s1 q=>?_)
 cases f with
 |next=>exact yO q
 |ret v=>exact q
 |brk=>exact q
 |cont=>exact q
theorem Inv.quiet(I:Inv X pins σ H s):interactive X.env=false:=by simp[interactive,I.ok.kind]
noncomputable def TZ(te:TE):TS:=λD σ H=>te σ H λ_ H1=>D.nx σ H1
theorem cP(he:PE X e te)(hs:swapsWith e none pos.line X.env=pure false:=by rfl):PS X (.Expr e pos) (TZ te):=by
 refine .mk ?_;intro pins s σ H D I h
 exact wpAny_Expr_any (aO (he pins s σ H _ I h) λv s1 ⟨x,H1,I1,r1,q1⟩=>⟨σ,H1,I1,q1⟩) I.quiet hs
noncomputable def AX(te:TE):TS:=λD σ H=>te σ H D.rt
theorem a8(he:PE X e te):PS X (.Return (some e) pos) (AX te):=by
 refine .mk ?_;intro pins s σ H D I h
 exact wpAny_Return_some (aO (he pins s σ H _ I h) λv s1 ⟨x,H1,I1,r1,q1⟩=>⟨x,σ,H1,I1,r1,q1⟩)
noncomputable def T3(c:TT)(t u:TS):TS:=λD σ H=>c σ H λb H1=>if b=true then t D σ H1 else u D σ H1
theorem bK{c:Expr}{a b:aa Stmt}(hc:PT X c tc)(ha:gJ X a t)(hb:gJ X b u):PS X (.If c a b pos) (T3 tc t u):=by
 refine .mk ?_;intro pins s σ H D I h
 refine wpAny_If (aO (hc pins s σ H _ I h) λd s1 ⟨H1,I1,q1⟩=>?_)
 cases d with
 |true=>exact ha pins s1 σ H1 D I1 q1
 |false=>exact hb pins s1 σ H1 D I1 q1
end
noncomputable abbrev TG:=V->St->Hp->(St->Hp->Prop)->Prop
noncomputable abbrev qm:=aa V->St->Hp->(St->Hp->Prop)->Prop
noncomputable def PG(X:Cx)(target:Expr)(t:TG):Prop:=
 ∀(pins:aa (ah×Obj)) (s:ag) (σ:St) (H:Hp) (v:V) (u:af) (Q:St->Hp->Prop),Inv X pins σ H s->RelV v u->t v σ H Q->
  wpAny (model X.prog X.w) X.A (assign target X.env u) (λ_ s'=>∃σ' H',Inv X pins σ' H' s'/\Q σ' H') X.xe s
noncomputable def yS(X:Cx)(ts:aa Expr)(t:qm):Prop:=
 ∀(pins:aa (ah×Obj)) (s:ag) (σ:St) (H:Hp) (vs:aa V) (us:aa af) (Q:St->Hp->Prop),Inv X pins σ H s->Vals vs us->t vs σ H Q->
  wpAny (model X.prog X.w) X.A (assignInOrder ((assignEach ts X.env).map (·.2)) us) (λ_ s'=>∃σ' H',Inv X pins σ' H' s'/\Q σ' H') X.xe s
noncomputable abbrev yU:=V->V->Hp->VK->Prop
noncomputable def Cy(X:Cx)(op:Operator)(t:yU):Prop:=
 ∀(pins:aa (ah×Obj)) (s:ag) (σ:St) (H:Hp) (x y:V) (v u:af) (Q:VK),Inv X pins σ H s->RelV x v->RelV y u->t x y H Q->
  wpAny (model X.prog X.w) X.A (inplaceOp op v u) (EP X pins σ Q) X.xe s
section
noncomputable def cT(i:Nat):TG:=λv σ H Q=>Q (σ.set i (some v)) H
theorem eO(hN:X.N.Nodup)(hi:X.N[i]?=some x)(hx:Loc X.env.scope x)(hf:X.fn x=true\/X.env.scope.names.lookup x=some .local:=by first|exact .inl rfl|exact .inr rfl|assumption):PG X (.Name x pos) (cT i):=by
 intro pins s σ H v u Q I r h
 exact wpAny_assign_Name (Bm I hN hi hx r (λs' I'=>⟨_,H,I',h⟩) hf)
noncomputable def YH:qm:=λvs σ H Q=>vs= []/\Q σ H
noncomputable def YG(t:TG)(u:qm):qm:=λvs σ H Q=>∃v r,vs=v::r/\t v σ H λσ' H'=>u r σ' H' Q
theorem adV:yS X [] YH:=by
 intro pins s σ H vs us Q I r h
 obtain⟨e,h⟩:=h
 subst e
 cases r
 exact assignInOrder_nil ⟨σ,H,I,h⟩
theorem VN{e:Expr}{t:TG}{u:qm}(h1:PG X e t)(h2:yS X es u)
  (hs:(assignEach (e::es) X.env).map (·.2)=assign e X.env::(assignEach es X.env).map (·.2):=by rfl):yS X (e::es) (YG t u):=by
 intro pins s σ H vs us Q I r h
 obtain⟨v,vr,e1,h⟩:=h
 subst e1
 cases r with
 |cons r rr=>
  rw[hs]
  refine assignInOrder_cons (aO (h1 pins s σ H _ _ _ I r h) λ_ s1 ⟨σ1,H1,I1,q1⟩=>?_)
  exact h2 pins s1 σ1 H1 _ _ Q I1 rr q1
noncomputable def YI(K:W.Frag)(n:Nat)(t:qm):TG:=λv σ H Q=>∃a xs,v= .ref a/\aM K H a xs/\xs.length=n/\t xs σ H Q
theorem adU{k:Nat}{t:qm}{n:Nat}(hc:X.calm=true)(h:yS X es t)
  (hn:(assignEach es X.env).length=n:=by rfl) (gn:(assignEach es X.env).findIdx? (·.1)=none:=by rfl):PG X (.Tuple es k pos) (YI X.K n t):=by
 intro pins s σ H v u Q I r hw
 obtain⟨a,xs,e1,hq,hl,hw⟩:=hw
 subst e1
 cases r
 obtain⟨its,rv,ht,hz⟩:=I.tuple hq
 refine assign_Tuple_tuple (I.ok.hd hc) ht (by simp[hn,<-hl,rv.length]) gn λh' hx=>?_
 have I1:Inv X pins σ H {s with heap:=h'}:=I.kept (t':=s.toks) λb o e=>hx b o (cU (cc e)) e
 exact h pins _ σ H xs _ Q I1 (by simpa using rv) hw
noncomputable def rC(te:TE)(g:TG):TS:=λD σ H=>te σ H λx H1=>g x σ H1 D.nx
theorem Oh{e:Expr}(hN:X.N.Nodup)(hi:X.N[i]?=some x)(hx:Loc X.env.scope x)(he:PE X e te)(hs:swapsWith e (some (.Name x pos')) pos.line X.env=pure false:=by rfl)(hf:X.fn x=true\/X.env.scope.names.lookup x=some .local:=by first|exact .inl rfl|exact .inr rfl|assumption):
  PS X (.Assign [.Name x pos'] e pos) (rC te (cT i)):=by
 refine .mk ?_;intro pins s σ H D I h
 refine wpAny_Assign_Name (aO (he pins s σ H _ I h) λv s1 ⟨y,H1,I1,r1,q1⟩=>?_) hs
 exact Bm I1 hN hi hx r1 (λs2 I2=>⟨_,H1,I2,q1⟩) hf
noncomputable def agu(i:Nat)(te:TE)(ti:yU):TS:=λD σ H=>∃x,σ[i]?=some (some x)/\te σ H λy H1=>ti x y H1 λz H2=>D.nx (σ.set i (some z)) H2
theorem BP{e:Expr}{op:Operator}{ti:yU}{pos':Pos}(hN:X.N.Nodup)(hi:X.N[i]?=some x)(hx:Loc X.env.scope x)(he:PE X e te)(ho:Cy X op ti)(hf:X.fn x=true\/X.env.scope.names.lookup x=some .local:=by first|exact .inl rfl|exact .inr rfl|assumption):
  PS X (.AugAssign (.Name x pos') op e pos) (agu i te ti):=by
 refine .mk ?_;intro pins s σ H D I h
 obtain⟨v,e1,h⟩:=h
 obtain⟨m,hn,hl⟩:=I.loc
 have vis:yV X.env.scope x:=by rcases hx with k|k;exact .inl k;exact .inr (.inl k)
 obtain⟨u,r,l⟩:=hl i x v hi e1 vis
 refine wpAny_AugAssign_Name ?_
 have go:wpAny (model X.prog X.w) X.A (eval e X.env) (λw s₂=>wpAny (model X.prog X.w) X.A (inplaceOp op u w) (λr s₃=>wpAny (model X.prog X.w) X.A (storeName X.env x r) (λ_=>SP X pins D .next) X.xe s₃) X.xe s₂) X.xe s:=by
  refine aO (he pins s σ H _ I h) λw s1 ⟨y,H1,I1,r1,q1⟩=>?_
  refine aO (ho pins s1 σ H1 v y u w _ I1 r r1 q1) λz s2 ⟨zv,H2,I2,r2,q2⟩=>?_
  exact Bm I2 hN hi hx r2 (λs3 I3=>⟨_,H2,I3,q2⟩) hf
 rcases l with⟨hk,hm⟩ | ⟨hk,c,hc,kZ⟩
 ·exact wpAny_loadName_local I.ok.kind hk hn hm go
 ·rcases hk with hk|hk
  ·exact wpAny_loadName_cell I.ok.kind hk hc kZ go
  ·rcases hx with k|k
   ·have:X.env.scope.names.lookup x=some .free:=hk
    rw[k]at this;cases this
   ·have:X.env.scope.names.lookup x=some .free:=hk
    rw[k]at this;cases this
noncomputable def RF(f:Int->Int->Int):yU:=λx y H Q=>∃i j,x= .int i/\y= .int j/\Q (.int (f i j)) H
theorem RG:Cy X .Add (RF λi j=>i+j):=by
 intro pins s σ H x y v u Q I r1 r2 h
 obtain⟨i,j,e1,e2,q⟩:=h
 subst e1;subst e2
 obtain⟨t,rfl⟩:=r1
 obtain⟨t',rfl⟩:=r2
 exact iadd_int ⟨.int _,H,I.tok _,⟨_,rfl⟩,q⟩
theorem RH:Cy X .Sub (RF λi j=>i-j):=by
 intro pins s σ H x y v u Q I r1 r2 h
 obtain⟨i,j,e1,e2,q⟩:=h
 subst e1;subst e2
 obtain⟨t,rfl⟩:=r1
 obtain⟨t',rfl⟩:=r2
 exact isub_int ⟨.int _,H,I.tok _,⟨_,rfl⟩,q⟩
end
section
noncomputable def agV(c:TT)(tb:TS):TS:=λD σ H=>∃W:Nat->St->Hp->Prop,(∃m,W m σ H)/\∀m σ H,W m σ H->
 c σ H λb H1=>if b=true then ∃N:St->Hp->Prop,(∀σ' H',N σ' H'->∃m',m'<m/\W m' σ' H')/\tb {D with nx:=N,ct:=N,bk:=D.nx} σ H1 else D.nx σ H1
theorem yc{c:Expr}(hp:PassesOwn (model X.prog X.w) X.A X.env X.xe)(hc:PT X c tc)(hb:gJ X body tb):PS X (.While c body [] pos) (agV tc tb):=by
 refine .mk ?_;intro pins s σ H D I h
 obtain⟨W,⟨m0,w0⟩,turn⟩:=h
 refine wpAny_While (codeAny_whileLoop (λn s'=>∃σ' H',Inv X pins σ' H' s'/\W n σ' H') ?_ m0 ⟨σ,H,I,w0⟩)
 rintro n s1 ⟨σ1,H1,I1,w1⟩
 refine sN hp (aO (hc pins s1 σ1 H1 _ I1 (turn n σ1 H1 w1)) λb s2 ⟨H2,I2,q2⟩=>?_)
 cases b with
 |true=>
  obtain⟨N,hN,q2⟩:=q2
  rw[aA rfl]
  refine sN hp (aO (hb pins s2 σ1 H2 _ I2 q2) λf s3 q3=>?_)
  cases f with
  |next=>
   obtain⟨σ3,H3,I3,n3⟩:=q3
   obtain⟨m',hm,w3⟩:=hN σ3 H3 n3
   exact⟨m',hm,σ3,H3,I3,w3⟩
  |cont=>
   obtain⟨σ3,H3,I3,n3⟩:=q3
   obtain⟨m',hm,w3⟩:=hN σ3 H3 n3
   exact⟨m',hm,σ3,H3,I3,w3⟩
  |brk=>exact q3
  |ret v=>exact q3
 |false=>
  rw[ax cb]
  exact yO ⟨σ1,H2,I2,q2⟩
end
structure It where
 go:Nat->Hp->Prop
 kF:Nat->Hp->V->Hp->Prop
 stop:Nat->Hp->Prop
noncomputable def kh(X:Cx)(pins:aa (ah×Obj))(H:Hp)(b:ah):Prop:=
 H b=none/\b≠X.env.locals/\b∉X.fs/\(b∈X.ex\/X.s₀.heap.objs.size<=b)/\(∀x c,X.env.cells.lookup x=some c->c≠b)/\∀p∈X.pn++pins,p.1≠b
theorem Inv.nJ{b:ah}(I:Inv X pins σ H s)(hb:s.heap.objs.size<=b)(hn:H' b=none):kh X pins H' b:=by
 refine⟨hn,oT (eQ I.lt hb),I.adh hb,.inr (eA I.sz hb),λx c e z=>?_,λp hp z=>?_⟩
 ·obtain⟨v,q⟩:=I.cell x c e
  exact absurd (eQ q.lt (by rw[z];exact hb)) (kN _)
 ·exact absurd (eQ (cc (I.pin p hp).1) (by rw[z];exact hb)) (kN _)
structure Turn(P:Program)(w:World)(K:W.Frag)(tg:Expr)(J:It)(fp:List Addr)(it:Addr)(tn:Nat->Heap->Prop):Prop where
 mem:it∈fp
 obj:∀i h,tn i h->∀b∈fp,∃o,h.get? b=some o/\∀v,o.data≠.cell v
 keep:∀i h h',tn i h->(∀b∈fp,∀o,h.get? b=some o->h'.get? b=some o)->tn i h'
 item:∀(X:Cx),X.prog=P->X.w=w->X.K=K->X.calm=true->∀(i:Nat) (pins:List (Addr×Obj)) (s:Shared) (σ:St) (H:Hp) (E:Value->Shared->Prop),Inv X pins σ H s->(∀b∈fp,kh X pins H b)->tn i s.heap->J.go i H->
  wpAny (model P w) X.A (pyNext (.ref it)) (λr s1=>∃u,r=some u/\
   wpAny (model P w) X.A (letOwnedTupleGo tg (.ref it) u) (λ_ s2=>∃x H',Inv X pins σ H' s2/\RelV x u/\J.kF i H x H'/\tn (i+1) s2.heap/\∀b∈fp,H' b=none) E s1) E s
 done:∀(X:Cx),X.prog=P->X.w=w->X.K=K->X.calm=true->∀(i:Nat) (pins:List (Addr×Obj)) (s:Shared) (σ:St) (H:Hp) (E:Value->Shared->Prop),Inv X pins σ H s->(∀b∈fp,kh X pins H b)->tn i s.heap->J.stop i H->
  wpAny (model P w) X.A (pyNext (.ref it)) (λr s1=>r=none/\Inv X pins σ H s1) E s
 self:∀(A:Around) (i:Nat) (s:Shared) (Q:Value->Shared->Prop) (E:Value->Shared->Prop),tn i s.heap->Q (.ref it) s->wpAny (model P w) A (pyIter (.ref it)) Q E s
noncomputable abbrev TI:=St->Hp->(It->Hp->Prop)->Prop
noncomputable def O1(X:Cx)(pins:aa (ah×Obj))(σ:St)(tg:Expr)(R:It->Hp->Prop)(Fi:af)(s2:ag):Prop:=
 ∃(it:ah) (fp:aa ah) (tn:Nat->aj->Prop) (J:It) (H':Hp),Fi= .ref it/\Inv X pins σ H' s2/\Turn X.prog X.w X.K tg J fp it tn/\tn 0 s2.heap/\(∀b∈fp,kh X pins H' b)/\R J H'
noncomputable def PI(X:Cx)(tg iter:Expr)(wi:TI):Prop:=
 ∀(pins:aa (ah×Obj)) (s:ag) (σ:St) (H:Hp) (R:It->Hp->Prop),Inv X pins σ H s->wi σ H R->
  wpAny (model X.prog X.w) X.A (eval iter X.env) (λv s1=>wpAny (model X.prog X.w) X.A (pyIter v) (O1 X pins σ tg R) X.xe s1) X.xe s
theorem DO{M:Model}{A:Around}{E:af->ag->Prop}{tg:Expr}{it:ah}{u:af}{n:String}{vs:Array af}{Q:Unit->ag->Prop}(ho:s.heap.get? it=some o)(hc:o.cls= .type n)(hd:o.data= .fields vs)
  (hn: ["enumerate","zip","dict_itemiterator","dict_reverseitemiterator","odict_iterator","itertools.zip_longest","itertools.pairwise"].contains n=false) (hQ:Q () s):wpAny M A (letOwnedTupleGo tg (.ref it) u) Q E s:=by
 unfold letOwnedTupleGo
 cases tg<;>first
  |exact aR hQ
  | (cases u<;>first
    |exact aR hQ
    | (refine aC (wpAny_load ho ?_)
       rw[hc,hd]
       show wpAny M A (if(["enumerate","zip","dict_itemiterator","dict_reverseitemiterator","odict_iterator","itertools.zip_longest","itertools.pairwise"].contains n&&vs[0]?==some (rawInt _))=true then _ else _) Q E s
       rw[ax (by intro h;rw[hn,Bool.false_and]at h;cases h)]
       exact aR hQ))
noncomputable def fZ(K:W.Frag)(a:ah):It:=
 ⟨λi H=>∃xs x,aK K H a xs/\xs[i]?=some x,λi H x H'=>H'=H/\∀xs,aK K H a xs->xs[i]?=some x,λi H=>∃xs,aK K H a xs/\xs.length<=i⟩
noncomputable def vj(K:W.Frag)(a:ah):It:=
 ⟨λi H=>∃xs x,aM K H a xs/\xs[i]?=some x,λi H x H'=>H'=H/\∀xs,aM K H a xs->xs[i]?=some x,λi H=>∃xs,aM K H a xs/\xs.length<=i⟩
noncomputable def nz(lo:Int)(n:Nat):It:=⟨λi _=>i<n,λi H x H'=>H'=H/\x= .int (lo+i),λi _=>n<=i⟩
theorem zjg(a it:ah):Turn P w K tg (fZ K a) [it] it (λi h=>h.IsListIter it a i) where
 mem:=by simp
 obj:=λi h st b hb=>by
  have e:b=it:=by simpa using hb
  subst e
  obtain⟨o,e,c,d⟩:=st
  exact⟨o,e,λv z=>by rw[d]at z;cases z⟩
 keep:=λi h h' st k=>st.at λo e=>k it (by simp) o e
 item:=by
  intro X hP hw hK hc i pins s σ H E I hf st hg
  subst hP hw hK
  obtain⟨xs,x,hq,hx⟩:=hg
  obtain⟨its,rv,p,hz⟩:=I.list hq
  obtain⟨u,hu,ru⟩:=rv.get hx
  obtain⟨f0,f1,f2,f3,f4,f5⟩:=hf it (by simp)
  refine wpAny_pyNext_list_item st p.isList (x:=u) (by simpa using hu) λh' fC sb=>?_
  have I1:Inv X pins σ H {s with heap:=h'}:=I.turned (t':=s.toks) (λb o hb e=>(sb.2 b hb).trans e) f0 f1 f3 f4 f5
  obtain⟨o,e,c,d⟩:=id fC
  exact⟨u,rfl,DO (s:={s with heap:=h'}) e c d (by decide) ⟨x,H,I1,ru,⟨rfl,λys hy=>by rw[I.acz hy hq];exact hx⟩,fC,λb hb=>(hf b hb).1⟩⟩
 done:=by
  intro X hP hw hK hc i pins s σ H E I hf st hg
  subst hP hw hK
  obtain⟨xs,hq,hx⟩:=hg
  obtain⟨its,rv,p,hz⟩:=I.list hq
  obtain⟨f0,f1,f2,f3,f4,f5⟩:=hf it (by simp)
  have hl:=rv.length
  exact wpAny_pyNext_list_end (I.ok.hd hc) st p.isList (by simp;omega) λh' eb=>⟨rfl,I.turned (t':=s.toks) (λb o hb e=>eb b o hb e) f0 f1 f3 f4 f5⟩
 self:=λ_ _ _ _ _ st h=>wpAny_pyIter_listiter st h
theorem ziE(a it:ah):Turn P w K tg (vj K a) [it] it (λi h=>h.IsTupleIter it a i) where
 mem:=by simp
 obj:=λi h st b hb=>by
  have e:b=it:=by simpa using hb
  subst e
  obtain⟨o,e,c,d⟩:=st
  exact⟨o,e,λv z=>by rw[d]at z;cases z⟩
 keep:=λi h h' st k=>st.at λo e=>k it (by simp) o e
 item:=by
  intro X hP hw hK hc i pins s σ H E I hf st hg
  subst hP hw hK
  obtain⟨xs,x,hq,hx⟩:=hg
  obtain⟨its,rv,p,hz⟩:=I.tuple hq
  obtain⟨u,hu,ru⟩:=rv.get hx
  obtain⟨f0,f1,f2,f3,f4,f5⟩:=hf it (by simp)
  refine wpAny_pyNext_tuple_item st (show s.heap.IsTuple a its.toArray from p) (x:=u) (by simpa using hu) λh' fC sb=>?_
  have I1:Inv X pins σ H {s with heap:=h'}:=I.turned (t':=s.toks) (λb o hb e=>(sb.2 b hb).trans e) f0 f1 f3 f4 f5
  obtain⟨o,e,c,d⟩:=id fC
  exact⟨u,rfl,DO (s:={s with heap:=h'}) e c d (by decide) ⟨x,H,I1,ru,⟨rfl,λys hy=>by rw[I.ag4 hy hq];exact hx⟩,fC,λb hb=>(hf b hb).1⟩⟩
 done:=by
  intro X hP hw hK hc i pins s σ H E I hf st hg
  subst hP hw hK
  obtain⟨xs,hq,hx⟩:=hg
  obtain⟨its,rv,p,hz⟩:=I.tuple hq
  obtain⟨f0,f1,f2,f3,f4,f5⟩:=hf it (by simp)
  have hl:=rv.length
  exact wpAny_pyNext_tuple_end (I.ok.hd hc) st (show s.heap.IsTuple a its.toArray from p) (by simp;omega) λh' eb=>⟨rfl,I.turned (t':=s.toks) (λb o hb e=>eb b o hb e) f0 f1 f3 f4 f5⟩
 self:=λ_ _ _ _ _ st h=>wpAny_pyIter_tupleiter st h
theorem ziF(it:ah)(lo:Int)(n:Nat):Turn P w K tg (nz lo n) [it] it (λi h=>IsRangeIter h it (lo+(i:Nat)*1) ((n:Int) - (i:Nat)) 1) where
 mem:=by simp
 obj:=λi h st b hb=>by
  have e:b=it:=by simpa using hb
  subst e
  exact⟨_,st,λv z=>by
   have z':Data.fields _=Data.cell v:=z
   cases z'⟩
 keep:=λi h h' st k=>k it (by simp) _ st
 item:=by
  intro X hP hw hK hc i pins s σ H E I hf st hg
  subst hP hw hK
  obtain⟨f0,f1,f2,f3,f4,f5⟩:=hf it (by simp)
  have W:=Walks.range (prog:=X.prog) (w:=X.w) (I.ok.hd hc) it lo 1 n
  refine W.item i s _ _ hg st λv h' tk hv fC kk=>?_
  obtain⟨t,rfl⟩:=hv
  have I1:Inv X pins σ H {s with heap:=h',toks:=tk}:=I.turned (λb o hb e=>kk b o (by simpa using hb) e) f0 f1 f3 f4 f5
  refine⟨_,rfl,DO (s:={s with heap:=h',toks:=tk}) (n:="range_iterator") fC rfl rfl (by decide) ⟨.int (lo+i),H,I1,⟨t,?_⟩,⟨rfl,rfl⟩,fC,λb hb=>(hf b hb).1⟩⟩
  rw[Int.mul_one]
 done:=by
  intro X hP hw hK hc i pins s σ H E I hf st hg
  subst hP hw hK
  obtain⟨f0,f1,f2,f3,f4,f5⟩:=hf it (by simp)
  exact wpAny_pyNext_range_end (I.ok.hd hc) st (by have:n<=i:=hg;omega) λh' eb=>⟨rfl,I.turned (t':=s.toks) (λb o hb e=>eb b o hb e) f0 f1 f3 f4 f5⟩
 self:=λ_ _ _ _ _ st h=>wpAny_pyIter_rangeiter st h
end L2
variable {wi:L2.TI}
namespace L2
open PySem PySem.Spec PyProof.Rows
section
noncomputable def Fd(K:W.Frag)(tl:TE):TI:=λσ H R=>tl σ H λx H1=>∃a,x= .ref a/\(∃xs,aK K H1 a xs)/\R (fZ K a) H1
noncomputable def abc(K:W.Frag)(tl:TE):TI:=λσ H R=>tl σ H λx H1=>∃a,x= .ref a/\(∃xs,aM K H1 a xs)/\R (vj K a) H1
theorem gz{l:Expr}{tl:TE}(hl:PE X l tl):PI X tg l (Fd X.K tl):=by
 intro pins s σ H R I h
 refine aO (hl pins s σ H _ I h) λv s1 ⟨x,H1,I1,r1,q1⟩=>?_
 obtain⟨a,e,⟨xs,hq⟩,q⟩:=q1
 subst e
 cases r1
 obtain⟨its,rv,p,hz⟩:=I1.list hq
 refine Cj p.isList ?_
 refine⟨s1.heap.objs.size,[s1.heap.objs.size],_,_,H1,rfl,I1.kept (t':=s1.toks) λb o e=>cL _ e,zjg a _,⟨_,eR _ rfl,rfl,rfl⟩,λb hb=>?_,q⟩
 have e:b=s1.heap.objs.size:=by simpa using hb
 subst e
 exact I1.nJ (bu _) (I1.aI.fresh (bu _))
theorem Oi{l:Expr}{tl:TE}(hl:PE X l tl):PI X tg l (abc X.K tl):=by
 intro pins s σ H R I h
 refine aO (hl pins s σ H _ I h) λv s1 ⟨x,H1,I1,r1,q1⟩=>?_
 obtain⟨a,e,⟨xs,hq⟩,q⟩:=q1
 subst e
 cases r1
 obtain⟨its,rv,p,hz⟩:=I1.tuple hq
 refine wpAny_pyIter_tuple (show s1.heap.IsTuple a its.toArray from p) ?_
 refine⟨s1.heap.objs.size,[s1.heap.objs.size],_,_,H1,rfl,I1.kept (t':=s1.toks) λb o e=>cL _ e,ziE a _,⟨_,eR _ rfl,rfl,rfl⟩,λb hb=>?_,q⟩
 have e:b=s1.heap.objs.size:=by simpa using hb
 subst e
 exact I1.nJ (bu _) (I1.aI.fresh (bu _))
theorem ael{R:It->Hp->Prop}{E:af->ag->Prop}{lo hi:Int}{t u v:Tok}{tk:Nat}(I:Inv X pins σ H s)(h1: -(2^62)<=lo)(h2:lo<2^62)(h3: -(2^62)<=hi)(h4:hi<2^62)
  (q:R (nz lo (hi-lo).toNat) H):wpAny (model X.prog X.w) X.A (pyIter (.ref s.heap.objs.size)) (O1 X pins σ tg R) E {s with heap:=s.heap.push {cls:=.type "range",data:=.fields #[.int lo t,.int hi u,.int 1 v]},toks:=tk}:=by
 refine wpAny_pyIter_range (IsRange.new ..) (small_one h1 h2 h3 h4) ?_
 have I1:Inv X pins σ H {s with heap:=s.heap.push {cls:=.type "range",data:=.fields #[.int lo t,.int hi u,.int 1 v]},toks:=tk}:=I.kept λb o e=>cL _ e
 refine⟨(s.heap.push {cls:=.type "range",data:=.fields #[.int lo t,.int hi u,.int 1 v]}).objs.size,[(s.heap.push {cls:=.type "range",data:=.fields #[.int lo t,.int hi u,.int 1 v]}).objs.size],_,_,H,rfl,
  I1.kept (t':=tk) λb o e=>cL _ e,ziF _ lo (hi-lo).toNat,?_,λb hb=>?_,q⟩
 ·have e1:lo+((0:Nat):Int)*1=lo:=by simp
  have e2:(((hi-lo).toNat:Nat):Int) - ((0:Nat):Int)=Builtin.Range.rangeSize lo hi 1:=by rw[rangeSize_one];split<;>omega
  show IsRangeIter _ _ (lo+((0:Nat):Int)*1) ((((hi-lo).toNat:Nat):Int) - ((0:Nat):Int)) 1
  rw[e1,e2]
  exact eR _ rfl
 ·have e:b=(s.heap.push {cls:=.type "range",data:=.fields #[.int lo t,.int hi u,.int 1 v]}).objs.size:=by simpa using hb
  subst e
  exact I1.nJ (bu _) (I1.aI.fresh (bu _))
noncomputable def abb(ta:TA):TI:=λσ H R=>ta σ H λvs H1=>∃j:Int,vs= [.int j]/\-(2^62)<=j/\j<2^62/\R (nz 0 j.toNat) H1
theorem Vs{a:Expr}{ta:TA}{p:Pos}(hg:Gl X "range")(hm:X.mg "range"=none)(ha:PA X [a] ta)(hs:starEach [a] X.env= [(false,eval a X.env)]:=by rfl):PI X tg (.Call (.Name "range" p) [a] [] pos) (abb ta):=by
 intro pins s σ H R I h
 refine Call_ (yr I hg hm boot_range (PyProof.Rows.callWith_type1 (aO (ha pos pins s σ H _ I h) λus s1 ⟨vs,H1,I1,r1,q1⟩=>?_) hs rfl))
 obtain⟨j,e,q1,q2,q⟩:=q1
 subst e
 cases r1 with
 |cons r rr=>
  cases rr
  obtain⟨t,rfl⟩:=r
  exact call_range_1 (ael I1 (by omega) (by omega) q1 q2 (by simpa using q))
noncomputable def agI(wi:TI)(g:TG)(tb:TS):TS:=λD σ H=>wi σ H λJ H1=>∃W:Nat->Nat->St->Hp->Prop,(∃m,W 0 m σ H1)/\∀i m σ H,W i m σ H->
 (J.stop i H/\D.nx σ H)\/(J.go i H/\∃N:St->Hp->Prop,(∀σ' H',N σ' H'->∃m',m'<m/\W (i+1) m' σ' H')/\∀x H',J.kF i H x H'->g x σ H' λσ2 H2=>tb {D with nx:=N,ct:=N,bk:=D.nx} σ2 H2)
noncomputable def yw(fp:aa ah)(h:aj):aa (ah×Obj):=fp.filterMap λb=>(h.get? b).map λo=>(b,o)
theorem Bb{b:ah}(hb:b∈fp)(e:h.get? b=some o):(b,o)∈yw fp h:=List.mem_filterMap.mpr ⟨b,hb,by rw[e];rfl⟩
theorem zjY{p:ah×Obj}(hp:p∈yw fp h):p.1∈fp/\h.get? p.1=some p.2:=by
 obtain⟨b,hb,e⟩:=List.mem_filterMap.mp hp
 cases q:h.get? b with
 |none=>rw[q]at e;cases e
 |some o=>
  rw[q]at e
  have e':(b,o)=p:=cq e
  subst e'
  exact⟨hb,q⟩
theorem Inv.pinned(I:Inv X pins σ H s)(hf:∀b∈fp,kh X pins H b)(ho:∀b∈fp,∃o,s.heap.get? b=some o/\∀v,o.data≠.cell v):Inv X (pins++yw fp s.heap) σ H s:=
 I.xB λp hp=>(List.mem_append.mp hp).elim (λz=>I.pin p (iB _ z)) λz=>by
  obtain⟨hb,e⟩:=zjY z
  obtain⟨f0,f1,f2,_⟩:=hf p.1 hb
  obtain⟨o,e',d⟩:=ho p.1 hb
  rw[e]at e';cases e'
  exact⟨e,f0,f1,f2,d⟩
theorem Inv.A1{pl:aa (ah×Obj)}(I:Inv X (pins++pl) σ H s):Inv X pins σ H s:=I.xB λp hp=>I.pin p (iB _ (yJ _ hp))
theorem oI{g:TG}{pos:Pos}(hp:PassesOwn (model X.prog X.w) X.A X.env X.xe)(hc:X.calm=true)(hi:PI X tg iter wi)(hg:PG X tg g)(hb:gJ X body tb)
  (hs:∀x,foldedSetIterable iter X.env x=pure x:=by intro _;rfl):PS X (.For tg iter body [] pos) (agI wi g tb):=by
 refine .mk ?_;intro pins s σ H D I h
 refine wpAny_For (aO (hi pins s σ H _ I h) λv s1 h1=>aO h1 λFi s2 h2=>?_) hs
 obtain⟨it,fp,tn,J,H2,e,I2,T,pO,f2,W,⟨m0,w0⟩,turn⟩:=h2
 subst e
 have LZ:∀{H':Hp},(∀b∈fp,H' b=none)->∀b∈fp,kh X pins H' b:=λhn b hb=>⟨hn b hb,(f2 b hb).2⟩
 refine codeAny_forLoop_any (λn s'=>∃i σ' H',Inv X pins σ' H' s'/\tn i s'.heap/\(∀b∈fp,H' b=none)/\W i n σ' H') ?_ m0 ⟨0,σ,H2,I2,pO,λb hb=>(f2 b hb).1,w0⟩
 rintro n s3 ⟨i,σ3,H3,I3,TU,vJ,w3⟩
 rcases turn i n σ3 H3 w3 with⟨stop,qn⟩ | ⟨go,N,hN,step⟩
 ·refine sN hp (aO (T.done X rfl rfl rfl hc i pins s3 σ3 H3 X.xe I3 (LZ vJ) TU stop) λr s4 ⟨hr,I4⟩=>?_)
  subst hr
  exact yO ⟨σ3,H3,I4,qn⟩
 ·refine sN hp (aO (T.item X rfl rfl rfl hc i pins s3 σ3 H3 X.xe I3 (LZ vJ) TU go) λr s4 ⟨u,hr,h4⟩=>?_)
  subst hr
  refine sN hp (aO h4 λ_ s5 ⟨x,H5,I5,r5,y5,LX,zf⟩=>?_)
  have W7:=I5.pinned (LZ zf) (T.obj _ _ LX)
  refine sN hp (aO (hg _ s5 σ3 H5 x u _ W7 r5 (step x H5 y5)) λ_ s6 ⟨σ6,H6,I6,q6⟩=>?_)
  refine sN hp (aO (hb _ s6 σ6 H6 _ I6 q6) λf s7 q7=>?_)
  have again:∀{σ7:St} {H7:Hp},Inv X (pins++yw fp s5.heap) σ7 H7 s7->N σ7 H7->∃m,m<n/\∃i σ' H',Inv X pins σ' H' s7/\tn i s7.heap/\(∀b∈fp,H' b=none)/\W i m σ' H':=λ{σ7 H7} I7 n7=>by
   obtain⟨m',hm,w7⟩:=hN σ7 H7 n7
   refine⟨m',hm,i+1,σ7,H7,I7.A1,T.keep _ _ _ LX λb hb o e=>(I7.pin (b,o) (iB _ (iB _ (Bb hb e)))).1,λb hb=>?_,w7⟩
   obtain⟨o,e,d⟩:=T.obj _ _ LX b hb
   exact(I7.pin (b,o) (iB _ (iB _ (Bb hb e)))).2.1
  cases f with
  |next=>obtain⟨σ7,H7,I7,n7⟩:=q7;exact again I7 n7
  |cont=>obtain⟨σ7,H7,I7,n7⟩:=q7;exact again I7 n7
  |brk=>obtain⟨σ7,H7,I7,q7⟩:=q7;exact⟨σ7,H7,I7.A1,q7⟩
  |ret v=>obtain⟨x7,σ7,H7,I7,r7,q7⟩:=q7;exact⟨x7,σ7,H7,I7.A1,r7,q7⟩
end
theorem yj{xs:aa V}{g:TG}{tb:TS}{D:Ends}(Pv:Nat->St->Hp->Prop)(h0:Pv 0 σ H)(hl:∀i σ H,i<=xs.length->Pv i σ H->aK K H a xs)
  (hs:∀i x σ H,xs[i]?=some x->Pv i σ H->g x σ H λσ2 H2=>tb {D with nx:=Pv (i+1),ct:=Pv (i+1),bk:=D.nx} σ2 H2) (hd:∀σ H,Pv xs.length σ H->D.nx σ H):
  ∃W:Nat->Nat->St->Hp->Prop,(∃m,W 0 m σ H)/\∀i m σ H,W i m σ H->
   ((fZ K a).stop i H/\D.nx σ H)\/((fZ K a).go i H/\∃N:St->Hp->Prop,(∀σ' H',N σ' H'->∃m',m'<m/\W (i+1) m' σ' H')/\∀x H',(fZ K a).kF i H x H'->g x σ H' λσ2 H2=>tb {D with nx:=N,ct:=N,bk:=D.nx} σ2 H2):=by
 refine⟨λi m σ H=>m=xs.length-i/\i<=xs.length/\Pv i σ H,⟨xs.length,by simp,dD _,h0⟩,?_⟩
 rintro i m σ H ⟨rfl,hi,p⟩
 have q:=hl i σ H hi p
 by_cases bq:i<xs.length
 ·refine .inr ⟨⟨xs,xs[i],q,by simp[bq]⟩,Pv (i+1),λσ' H' p'=>⟨xs.length- (i+1),by omega,rfl,bq,p'⟩,λx H' y=>?_⟩
  obtain⟨e,y⟩:=y
  subst e
  exact hs i x σ _ (y xs q) p
 ·have e:i=xs.length:=by omega
  subst e
  exact .inl ⟨⟨xs,q,bu _⟩,hd σ H p⟩
theorem NT{xs:aa V}{g:TG}{tb:TS}{D:Ends}(Pv:Nat->St->Hp->Prop)(h0:Pv 0 σ H)(hl:∀i σ H,i<=xs.length->Pv i σ H->aM K H a xs)
  (hs:∀i x σ H,xs[i]?=some x->Pv i σ H->g x σ H λσ2 H2=>tb {D with nx:=Pv (i+1),ct:=Pv (i+1),bk:=D.nx} σ2 H2) (hd:∀σ H,Pv xs.length σ H->D.nx σ H):
  ∃W:Nat->Nat->St->Hp->Prop,(∃m,W 0 m σ H)/\∀i m σ H,W i m σ H->
   ((vj K a).stop i H/\D.nx σ H)\/((vj K a).go i H/\∃N:St->Hp->Prop,(∀σ' H',N σ' H'->∃m',m'<m/\W (i+1) m' σ' H')/\∀x H',(vj K a).kF i H x H'->g x σ H' λσ2 H2=>tb {D with nx:=N,ct:=N,bk:=D.nx} σ2 H2):=by
 refine⟨λi m σ H=>m=xs.length-i/\i<=xs.length/\Pv i σ H,⟨xs.length,by simp,dD _,h0⟩,?_⟩
 rintro i m σ H ⟨rfl,hi,p⟩
 have q:=hl i σ H hi p
 by_cases bq:i<xs.length
 ·refine .inr ⟨⟨xs,xs[i],q,by simp[bq]⟩,Pv (i+1),λσ' H' p'=>⟨xs.length- (i+1),by omega,rfl,bq,p'⟩,λx H' y=>?_⟩
  obtain⟨e,y⟩:=y
  subst e
  exact hs i x σ _ (y xs q) p
 ·have e:i=xs.length:=by omega
  subst e
  exact .inl ⟨⟨xs,q,bu _⟩,hd σ H p⟩
theorem zkH{lo:Int}{n:Nat}{g:TG}{tb:TS}{D:Ends}(Pv:Nat->St->Hp->Prop)(h0:Pv 0 σ H)
  (hs:∀i σ H,i<n->Pv i σ H->g (.int (lo+i)) σ H λσ2 H2=>tb {D with nx:=Pv (i+1),ct:=Pv (i+1),bk:=D.nx} σ2 H2) (hd:∀σ H,Pv n σ H->D.nx σ H):
  ∃W:Nat->Nat->St->Hp->Prop,(∃m,W 0 m σ H)/\∀i m σ H,W i m σ H->
   ((nz lo n).stop i H/\D.nx σ H)\/((nz lo n).go i H/\∃N:St->Hp->Prop,(∀σ' H',N σ' H'->∃m',m'<m/\W (i+1) m' σ' H')/\∀x H',(nz lo n).kF i H x H'->g x σ H' λσ2 H2=>tb {D with nx:=N,ct:=N,bk:=D.nx} σ2 H2):=by
 refine⟨λi m σ H=>m=n-i/\i<=n/\Pv i σ H,⟨n,by simp,dD _,h0⟩,?_⟩
 rintro i m σ H ⟨rfl,hi,p⟩
 by_cases bq:i<n
 ·refine .inr ⟨bq,Pv (i+1),λσ' H' p'=>⟨n- (i+1),by omega,rfl,bq,p'⟩,λx H' y=>?_⟩
  obtain⟨e,y⟩:=y
  subst e y
  exact hs i σ _ bq p
 ·have e:i=n:=by omega
  subst e
  exact .inl ⟨bu _,hd σ H p⟩
noncomputable abbrev R2:=V->V->Hp->VK->Prop
noncomputable def d7(X:Cx)(f:af->af->Sem af)(r:R2):Prop:=
 ∀(pins:aa (ah×Obj)) (s:ag) (σ:St) (H:Hp) (x y:V) (v u:af) (Q:VK),Inv X pins σ H s->RelV x v->RelV y u->r x y H Q->
  wpAny (model X.prog X.w) X.A (f v u) (EP X pins σ Q) X.xe s
noncomputable def CD(X:Cx)(f:af->Sem af)(r:V->Hp->VK->Prop):Prop:=
 ∀(pins:aa (ah×Obj)) (s:ag) (σ:St) (H:Hp) (x:V) (v:af) (Q:VK),Inv X pins σ H s->RelV x v->r x H Q->
  wpAny (model X.prog X.w) X.A (f v) (EP X pins σ Q) X.xe s
noncomputable def jf(X:Cx)(f:af)(r:aa V->Hp->VK->Prop):Prop:=
 ∀(pins:aa (ah×Obj)) (s:ag) (σ:St) (H:Hp) (xs:aa V) (us:aa af) (Q:VK),Inv X pins σ H s->Vals xs us->r xs H Q->
  wpAny (model X.prog X.w) X.A (call f us) (EP X pins σ Q) X.xe s
noncomputable def Xh(X:Cx)(r:V->Hp->(ai->Hp->Prop)->Prop):Prop:=
 ∀(pins:aa (ah×Obj)) (s:ag) (σ:St) (H:Hp) (x:V) (v:af) (Q:ai->Hp->Prop),Inv X pins σ H s->RelV x v->r x H Q->
  wpAny (model X.prog X.w) X.A (truthy v) (TP X pins σ Q) X.xe s
noncomputable def e7(r:R2)(ta tb:TE):TE:=λσ H Q=>ta σ H λx H1=>tb σ H1 λy H2=>r x y H2 Q
noncomputable def T8(r:V->Hp->VK->Prop)(ta:TE):TE:=λσ H Q=>ta σ H λx H1=>r x H1 Q
noncomputable def rI(C:Int->Int->Prop)(g:Int->Int->V):R2:=λx y H Q=>∃i j,x= .int i/\y= .int j/\C i j/\Q (g i j) H
noncomputable def jW(g:Int->Int->V):R2:=λx y H Q=>∃i j,x= .int i/\y= .int j/\Q (g i j) H
noncomputable def rU(g:Int->V):V->Hp->VK->Prop:=λx H Q=>∃i,x= .int i/\Q (g i) H
section
variable {a b c:Expr} {tb tc:TE}
theorem C5(ha:PE X a ta)(hb:PE X b tb){R:V->V->Hp->Prop}(I:Inv X pins σ H s)
  (h:ta σ H λx H1=>tb σ H1 λy H2=>R x y H2) {Q:af->ag->Prop} {f:af->af->Sem af}
  (hf:∀v u s2 x y H2,Inv X pins σ H2 s2->RelV x v->RelV y u->R x y H2->wpAny (model X.prog X.w) X.A (f v u) Q X.xe s2):
  wpAny (model X.prog X.w) X.A (eval a X.env) (λv s₁=>wpAny (model X.prog X.w) X.A (eval b X.env) (λu s₂=>wpAny (model X.prog X.w) X.A (f v u) Q X.xe s₂) X.xe s₁) X.xe s:=by
 refine aO (ha pins s σ H _ I h) λv s1 ⟨x,H1,I1,r1,q1⟩=>?_
 refine aO (hb pins s1 σ H1 _ I1 q1) λu s2 ⟨y,H2,I2,r2,q2⟩=>?_
 exact hf v u s2 x y H2 I2 r1 r2 q2
theorem ba{op:Operator}{r:R2}(ho:d7 X (binaryOp op) r)(ha:PE X a ta)(hb:PE X b tb):PE X (.BinOp a op b pos) (e7 r ta tb):=by
 refine .mk ?_;intro pins s σ H Q I h
 exact wpAny_BinOp (C5 ha hb I h λv u s2 x y H2 I2 rx ry q=>ho pins s2 σ H2 x y v u Q I2 rx ry q)
theorem AB{op:UnaryOp}{r:V->Hp->VK->Prop}(ho:CD X (unaryOp op) r)(ha:PE X a ta):PE X (.UnaryOp op a pos) (T8 r ta):=by
 refine .mk ?_;intro pins s σ H Q I h
 exact UnaryOp_ (aO (ha pins s σ H _ I h) λv s1 ⟨x,H1,I1,r1,q1⟩=>ho pins s1 σ H1 x v Q I1 r1 q1)
theorem FQ{f:af->af->Sem af}{C:Int->Int->Prop}{g:Int->Int->Int}
  (rule:∀(i j:Int) (t u:Tok) (s:ag) (Q:af->ag->Prop) (E:af->ag->Prop),C i j->Q (.int (g i j) s.toks) {s with toks:=s.toks+1}->wpAny (model X.prog X.w) X.A (f (.int i t) (.int j u)) Q E s):
  d7 X f (rI C λi j=>.int (g i j)):=by
 intro pins s σ H x y v u Q I rx ry h
 obtain⟨i,j,rfl,rfl,hc,q⟩:=h
 obtain⟨t,rfl⟩:=rx
 obtain⟨t',rfl⟩:=ry
 exact rule i j t t' s _ _ hc ⟨.int (g i j),H,I.tok _,⟨_,rfl⟩,q⟩
theorem SW{f:af->af->Sem af}{g:Int->Int->Int}
  (rule:∀(i j:Int) (t u:Tok) (s:ag) (Q:af->ag->Prop) (E:af->ag->Prop),Q (.int (g i j) s.toks) {s with toks:=s.toks+1}->wpAny (model X.prog X.w) X.A (f (.int i t) (.int j u)) Q E s):
  d7 X f (jW λi j=>.int (g i j)):=by
 intro pins s σ H x y v u Q I rx ry h
 obtain⟨i,j,rfl,rfl,q⟩:=h
 obtain⟨t,rfl⟩:=rx
 obtain⟨t',rfl⟩:=ry
 exact rule i j t t' s _ _ ⟨.int (g i j),H,I.tok _,⟨_,rfl⟩,q⟩
theorem Au{f:af->af->Sem af}{g:Int->Int->ai}
  (rule:∀(i j:Int) (t u:Tok) (s:ag) (Q:af->ag->Prop) (E:af->ag->Prop),Q (.bool (g i j)) s->wpAny (model X.prog X.w) X.A (f (.int i t) (.int j u)) Q E s):
  d7 X f (jW λi j=>.bl (g i j)):=by
 intro pins s σ H x y v u Q I rx ry h
 obtain⟨i,j,rfl,rfl,q⟩:=h
 obtain⟨t,rfl⟩:=rx
 obtain⟨t',rfl⟩:=ry
 exact rule i j t t' s _ _ ⟨.bl (g i j),H,I,rfl,q⟩
noncomputable def WW(i j:Int):Prop:=0<j/\j<1073741824
noncomputable def Ck(i j:Int):Prop:=(-(2^64)<i/\i<2^64)\/(-(2^64)<j/\j<2^64)
theorem Ck.ok{i j:Int}(h:Ck i j):IntMulOk i j:=by
 rcases h with⟨h1,h2⟩ | ⟨h1,h2⟩
 ·exact .of_left (intBits_le_64 h1 h2)
 ·exact .of_right (intBits_le_64 h1 h2)
theorem gR:d7 X (binaryOp .Add) (jW λi j=>.int (i+j)):=SW λ_ _ _ _ _ _ _ q=>add_int q
theorem kJ:d7 X (binaryOp .Sub) (jW λi j=>.int (i-j)):=SW λ_ _ _ _ _ _ _ q=>sub_int q
theorem yz:d7 X (binaryOp .Mult) (rI Ck λi j=>.int (i*j)):=FQ λ_ _ _ _ _ _ _ hc q=>mul_int q hc.ok
theorem g8:d7 X (binaryOp .FloorDiv) (rI WW λi j=>.int (i / j)):=FQ λi j _ _ _ _ _ hc q=>by
 have h1:(0:Int)<j:=hc.1
 have h2:j<1073741824:=hc.2
 exact floordiv_int (by omega) (by rw[Int.fdiv_eq_ediv_of_nonneg i (by omega)];exact q) (.inl (PyProof.noPylong_small (by omega)))
theorem e_:d7 X (binaryOp .Mod) (rI (λ_ j=>0<j) λi j=>.int (i % j)):=FQ λi j _ _ _ _ _ hc q=>by
 have h1:(0:Int)<j:=hc
 exact mod_int' (by omega) (by rw[Int.fmod_eq_emod_of_nonneg i (by omega)];exact q)
theorem unI{f:af->Sem af}{g:Int->Int}
  (rule:∀(i:Int) (t:Tok) (s:ag) (Q:af->ag->Prop) (E:af->ag->Prop),Q (.int (g i) s.toks) {s with toks:=s.toks+1}->wpAny (model X.prog X.w) X.A (f (.int i t)) Q E s):
  CD X f (rU λi=>.int (g i)):=by
 intro pins s σ H x v Q I rx h
 obtain⟨i,rfl,q⟩:=h
 obtain⟨t,rfl⟩:=rx
 exact rule i t s _ _ ⟨.int (g i),H,I.tok _,⟨_,rfl⟩,q⟩
theorem BR:CD X (unaryOp .USub) (rU λi=>.int (-i)):=unI λ_ _ _ _ _ q=>neg_int q
end
noncomputable def lJ:V->V->ai
 | .aE,.aE=>true| .aE,.int _=>true| .int _,.aE=>true| .aE,.bl _=>true| .bl _,.aE=>true| .aE,.str _=>true| .str _,.aE=>true
 | .int _,.int _=>true| .bl _,.bl _=>true| .str _,.str _=>true| .iF _,.iF _=>true
 | .int _,.str _=>true| .str _,.int _=>true| .bl _,.str _=>true| .str _,.bl _=>true
 |_,_=>false
noncomputable def mW:R2:=λx y H Q=>lJ x y=true/\Q (.bl (decide (x=y))) H
noncomputable def pM:R2:=λx y H Q=>lJ x y=true/\Q (.bl (!decide (x=y))) H
theorem WA{i j:Int}:decide (V.int i=V.int j)=(i==j):=by
 rw[uX]
 simp
theorem Pl{i j:ai}:decide (V.bl i=V.bl j)=(i==j):=by
 rw[uX]
 simp
theorem Wz{i j:Str}:decide (V.str i=V.str j)=(i==j):=by
 rw[uX]
 simp
theorem WC{i j:Array UInt8}:decide (V.iF i=V.iF j)=(i.toList==j.toList):=by
 rw[uX]
 cases i
 cases j
 simp
section
variable {a b c:Expr} {tb tc:TE}
theorem dJ{Q:VK}{k k':ai}(I:Inv X pins σ H s)(q:Q (.bl k) H)(e:k=k'):EP X pins σ Q (.bool k') s:=by
 subst e
 exact⟨.bl k,H,I,rfl,q⟩
theorem cQ:d7 X (compareOp .Eq) mW:=by
 intro pins s σ H x y v u Q I rx ry h
 obtain⟨hs,q⟩:=h
 cases x with
 |aE=>
  cases rx
  cases y with
  |aE=>cases ry;exact PySem.EqNone.eq_none_none (dJ I q (by simp))
  |bl j=>cases ry;exact PySem.EqNone.eq_none_bool (dJ I q (by simp))
  |int j=>obtain⟨t',rfl⟩:=ry;exact PySem.EqNone.eq_none_int (dJ I q (by simp))
  |str j=>obtain⟨t',rfl⟩:=ry;exact PySem.EqNone.eq_none_str (dJ I q (by simp))
  |_=>exact absurd (show false=true from hs) cb
 |bl i=>
  cases rx
  cases y with
  |aE=>cases ry;exact PySem.EqNone.eq_bool_none (dJ I q (by simp))
  |bl j=>cases ry;exact eq_bool (dJ I q Pl)
  |str j=>obtain⟨t',rfl⟩:=ry;exact PySem.EqMixed.eq_bool_str (dJ I q (by simp))
  |_=>exact absurd (show false=true from hs) cb
 |int i=>
  obtain⟨t,rfl⟩:=rx
  cases y with
  |aE=>cases ry;exact PySem.EqNone.eq_int_none (dJ I q (by simp))
  |int j=>obtain⟨t',rfl⟩:=ry;exact eq_int (dJ I q WA)
  |str j=>obtain⟨t',rfl⟩:=ry;exact PySem.EqMixed.eq_int_str (dJ I q (by simp))
  |_=>exact absurd (show false=true from hs) cb
 |str i=>
  obtain⟨t,rfl⟩:=rx
  cases y with
  |aE=>cases ry;exact PySem.EqNone.eq_str_none (dJ I q (by simp))
  |bl j=>cases ry;exact PySem.EqMixed.eq_str_bool (dJ I q (by simp))
  |int j=>obtain⟨t',rfl⟩:=ry;exact PySem.EqMixed.eq_str_int (dJ I q (by simp))
  |str j=>obtain⟨t',rfl⟩:=ry;exact eq_str (dJ I q Wz)
  |_=>exact absurd (show false=true from hs) cb
 |iF i=>
  obtain⟨t,rfl⟩:=rx
  cases y with
  |iF j=>obtain⟨t',rfl⟩:=ry;exact W.eq_bytes (dJ I q WC)
  |_=>exact absurd (show false=true from hs) cb
 |_=>cases y<;>exact absurd (show false=true from hs) cb
theorem hX:d7 X (compareOp .NotEq) pM:=by
 intro pins s σ H x y v u Q I rx ry h
 obtain⟨hs,q⟩:=h
 cases x with
 |aE=>
  cases rx
  cases y with
  |aE=>cases ry;exact PySem.EqNone.ne_none_none (dJ I q (by simp))
  |bl j=>cases ry;exact PySem.EqNone.ne_none_bool (dJ I q (by simp))
  |int j=>obtain⟨t',rfl⟩:=ry;exact PySem.EqNone.ne_none_int (dJ I q (by simp))
  |str j=>obtain⟨t',rfl⟩:=ry;exact PySem.EqNone.ne_none_str (dJ I q (by simp))
  |_=>exact absurd (show false=true from hs) cb
 |bl i=>
  cases rx
  cases y with
  |aE=>cases ry;exact PySem.EqNone.ne_bool_none (dJ I q (by simp))
  |bl j=>cases ry;exact ne_bool (dJ I q (dA not Pl))
  |str j=>obtain⟨t',rfl⟩:=ry;exact PySem.EqMixed.ne_bool_str (dJ I q (by simp))
  |_=>exact absurd (show false=true from hs) cb
 |int i=>
  obtain⟨t,rfl⟩:=rx
  cases y with
  |aE=>cases ry;exact PySem.EqNone.ne_int_none (dJ I q (by simp))
  |int j=>obtain⟨t',rfl⟩:=ry;exact ne_int (dJ I q (dA not WA))
  |str j=>obtain⟨t',rfl⟩:=ry;exact PySem.EqMixed.ne_int_str (dJ I q (by simp))
  |_=>exact absurd (show false=true from hs) cb
 |str i=>
  obtain⟨t,rfl⟩:=rx
  cases y with
  |aE=>cases ry;exact PySem.EqNone.ne_str_none (dJ I q (by simp))
  |bl j=>cases ry;exact PySem.EqMixed.ne_str_bool (dJ I q (by simp))
  |int j=>obtain⟨t',rfl⟩:=ry;exact PySem.EqMixed.ne_str_int (dJ I q (by simp))
  |str j=>obtain⟨t',rfl⟩:=ry;exact ne_str (dJ I q (dA not Wz))
  |_=>exact absurd (show false=true from hs) cb
 |iF i=>
  obtain⟨t,rfl⟩:=rx
  cases y with
  |iF j=>obtain⟨t',rfl⟩:=ry;exact W.ne_bytes (dJ I q (dA not WC))
  |_=>exact absurd (show false=true from hs) cb
 |_=>cases y<;>exact absurd (show false=true from hs) cb
theorem Aw:d7 X (compareOp .Lt) (jW λi j=>.bl (decide (i<j))):=Au λ_ _ _ _ _ _ _ q=>lt_int q
theorem ng:d7 X (compareOp .LtE) (jW λi j=>.bl (decide (i<=j))):=Au λ_ _ _ _ _ _ _ q=>le_int q
theorem oP:d7 X (compareOp .Gt) (jW λi j=>.bl (decide (j<i))):=Au λ_ _ _ _ _ _ _ q=>gt_int q
theorem Av:d7 X (compareOp .GtE) (jW λi j=>.bl (decide (j<=i))):=Au λ_ _ _ _ _ _ _ q=>ge_int q
theorem a9(b:Expr)(h:op≠.In:=by decide)(h2:op≠.NotIn:=by decide):behindInMarks op b=false:=by
 have e1:(op==CmpOp.In)=false:=by cases op<;>first|rfl|exact absurd rfl h
 have e2:(op==CmpOp.NotIn)=false:=by cases op<;>first|rfl|exact absurd rfl h2
 cases b<;>simp[behindInMarks,e1,e2]
theorem je{r:R2}(ho:d7 X (compareOp op) r)(ha:PE X a ta)(hb:PE X b tb)(hm:behindInMarks op b=false):PE X (.Compare a [op] [b] pos) (e7 r ta tb):=by
 refine .mk ?_;intro pins s σ H Q I h
 exact wpAny_Compare1 (C5 ha hb I h λv u s2 x y H2 I2 rx ry q=>ho pins s2 σ H2 x y v u Q I2 rx ry q) hm
noncomputable def hV(t:TE):TT:=λσ H Q=>t σ H λx H'=>∃k,x= .bl k/\Q k H'
theorem bC{r:R2}(ho:d7 X (compareOp op) r)(ha:PE X a ta)(hb:PE X b tb)(hm:behindInMarks op b=false):PT X (.Compare a [op] [b] pos) (hV (e7 r ta tb)):=by
 refine .mk ?_;intro pins s σ H Q I h
 refine wpAny_isTrue_Compare1 (aO (ha pins s σ H _ I h) λv s1 ⟨x,H1,I1,r1,q1⟩=>aO (hb pins s1 σ H1 _ I1 q1) λu s2 ⟨y,H2,I2,r2,q2⟩=>
  aO (ho pins s2 σ H2 x y v u _ I2 r1 r2 q2) λc s3 ⟨z,H3,I3,r3,k,e,q3⟩=>?_) hm
 subst e
 cases r3
 exact nq ⟨H3,I3,q3⟩
noncomputable def Oy(r r':R2)(ta tb tc:TE):TE:=λσ H Q=>ta σ H λx H1=>tb σ H1 λy H2=>r x y H2 λz H3=>∃k,z= .bl k/\
 (if k=true then tc σ H3 λw' H4=>r' y w' H4 Q else Q (.bl false) H3)
theorem Ng{rj:CmpOp}{r r':R2}(ho:d7 X (compareOp op) r)(jQ:d7 X (compareOp rj) r')(ha:PE X a ta)(hb:PE X b tb)(hc:PE X c tc)
  (hm:lastMarks [op,rj] [b,c]=false:=by with_unfolding_all rfl):PE X (.Compare a [op,rj] [b,c] pos) (Oy r r' ta tb tc):=by
 refine .mk ?_;intro pins s σ H Q I h
 refine Compare_chain (aO (ha pins s σ H _ I h) λv s1 ⟨x,H1,I1,r1,q1⟩=>chain_link (aO (hb pins s1 σ H1 _ I1 q1) λu s2 ⟨y,H2,I2,r2,q2⟩=>
  aO (ho pins s2 σ H2 x y v u _ I2 r1 r2 q2) λd s3 ⟨z,H3,I3,r3,k,e,q3⟩=>?_)) hm
 subst e
 cases r3
 refine nq ?_
 cases k with
 |false=>exact ite_ff ⟨.bl false,H3,I3,rfl,q3⟩
 |true=>exact ite_tt (chain_last (aO (hc pins s3 σ H3 _ I3 q3) λw' s4 ⟨z',H4,I4,r4,q4⟩=>jQ pins s4 σ H4 y z' u w' Q I4 r2 r4 q4))
theorem ad6{rj:CmpOp}{r r':R2}(ho:d7 X (compareOp op) r)(jQ:d7 X (compareOp rj) r')(ha:PE X a ta)(hb:PE X b tb)(hc:PE X c tc)
  (hm:lastMarks [op,rj] [b,c]=false:=by with_unfolding_all rfl):PT X (.Compare a [op,rj] [b,c] pos) (hV (Oy r r' ta tb tc)):=by
 refine .mk ?_;intro pins s σ H Q I h
 refine isTrue_chain (aO (ha pins s σ H _ I h) λv s1 ⟨x,H1,I1,r1,q1⟩=>test_link (aO (hb pins s1 σ H1 _ I1 q1) λu s2 ⟨y,H2,I2,r2,q2⟩=>
  aO (ho pins s2 σ H2 x y v u _ I2 r1 r2 q2) λd s3 ⟨z,H3,I3,r3,k,e,q3⟩=>?_)) hm
 subst e
 cases r3
 refine nq ?_
 cases k with
 |false=>
  obtain⟨k',e',q'⟩:=q3
  cases e'
  exact ite_ff ⟨H3,I3,q'⟩
 |true=>
  refine ite_tt (test_last (aO (hc pins s3 σ H3 _ I3 q3) λw' s4 ⟨z',H4,I4,r4,q4⟩=>aO (jQ pins s4 σ H4 y z' u w' _ I4 r2 r4 q4) λd' s5 ⟨z2,H5,I5,r5,k2,e2,q5⟩=>?_))
  subst e2
  cases r5
  exact nq ⟨H5,I5,q5⟩
noncomputable def O4(K:W.Frag)(x:V)(H:Hp)(k:ai):Prop:=
 match x with
 | .aE=>k=false
 | .bl b=>k=b
 | .int i=>k=(i !=0)
 | .str y=>y.length<=sizeLine/\k=((y.length:Int) !=0)
 | .iF y=>y.size<=sizeLine/\k=((y.size:Int) !=0)
 | .ref p=>(∃xs,aK K H p xs/\k= !xs.isEmpty)\/(∃xs,aM K H p xs/\k= !xs.isEmpty)\/∃kvs,H p=some (.dK kvs)/\k= !kvs.isEmpty
 |_=>False
theorem ziW{κ:Type}{kvs:aa (κ×V)}{vs:aa (κ×af)}(r:KV kvs vs):(!vs.isEmpty)= !kvs.isEmpty:=by
 cases r<;>rfl
theorem UM{xs:aa V}(r:Vals xs its):(!its.toArray.isEmpty)= !xs.isEmpty:=by
 cases r<;>simp
theorem BV:(sizeLine:Nat)<2^63:=by rw[a7];decide
theorem ag3:Xh X (λx H Q=>∃k,O4 X.K x H k/\Q k H):=by
 intro pins s σ H x v Q I rx h
 obtain⟨k,e,q⟩:=h
 have hl:=BV
 have hs:sizeLine=16777216:=a7
 cases x with
 |aE=>
  cases rx
  have e':k=false:=e
  subst e'
  exact truthy_none ⟨H,I,q⟩
 |bl b=>
  cases rx
  have e':k=b:=e
  subst e'
  exact nq ⟨H,I,q⟩
 |int i=>
  obtain⟨t,rfl⟩:=rx
  have e':k=(i !=0):=e
  subst e'
  exact PySem.P.truthy_int ⟨H,I,q⟩
 |str y=>
  obtain⟨t,rfl⟩:=rx
  obtain⟨hy,e'⟩:y.length<=sizeLine/\k=((y.length:Int) !=0):=e
  subst e'
  exact PySem.P.truthy_str (by omega) ⟨H,I.tok _,q⟩
 |iF y=>
  obtain⟨t,rfl⟩:=rx
  obtain⟨hy,e'⟩:y.size<=sizeLine/\k=((y.size:Int) !=0):=e
  subst e'
  exact W.truthy_bytes (by omega) ⟨H,I.tok _,q⟩
 |ref p=>
  cases rx
  have e':(∃xs,aK X.K H p xs/\k= !xs.isEmpty)\/(∃xs,aM X.K H p xs/\k= !xs.isEmpty)\/∃kvs,H p=some (.dK kvs)/\k= !kvs.isEmpty:=e
  rcases e' with⟨xs,hx,e'⟩ | ⟨xs,hx,e'⟩ | ⟨kvs,hx,e'⟩
  ·subst e'
   obtain⟨its,r,pl,hz⟩:=I.list hx
   have hlen:=r.length
   exact wpAny_truthy_list pl.isList (by simp only[eP];omega) ⟨H,I.tok _,by rw[UM r];exact q⟩
  ·subst e'
   obtain⟨its,r,pl,hz⟩:=I.tuple hx
   have hlen:=r.length
   exact truthy_tuple pl (by simp only[eP];omega) ⟨H,I.tok _,by rw[UM r];exact q⟩
  ·subst e'
   obtain⟨hz,hS,vs,r,m⟩:kvs.length<=sizeLine/\(p==sysModules)=false/\∃vs,KV kvs vs/\s.heap.DictOf (ee X.prog X.w) p vs:=I.aI p _ hx
   have hlen:kvs.length=vs.length:=Paired.length r
   exact wpAny_truthy_dict hS m (by omega) ⟨H,I.tok _,by rw[ziW r];exact q⟩
 |_=>exact(show False from e).elim
theorem Bp(ha:PE X a ta)(he:∀whole,isTrue a X.env whole=(do let v <-whole;standAt a.pos;holding [v] (truthy v))):
  PT X a (λσ H Q=>ta σ H λx H'=>∃k,O4 X.K x H' k/\Q k H'):=by
 refine .mk ?_;intro pins s σ H Q I h
 exact isTrue_plain (aO (ha pins s σ H _ I h) λv s1 ⟨x,H1,I1,r1,q1⟩=>ag3 pins s1 σ H1 x v Q I1 r1 q1) (he _)
theorem jg{x:V}(r:Vals [x] us):∃u,us= [u]/\RelV x u:=by
 cases r with
 |cons r1 r2=>cases r2;exact⟨_,rfl,r1⟩
theorem vals2{x y:V}(r:Vals [x,y] us):∃u w',us= [u,w']/\RelV x u/\RelV y w':=by
 cases r with
 |cons r1 r2=>
  cases r2 with
  |cons r3 r4=>cases r4;exact⟨_,_,rfl,r1,r3⟩
theorem Bl:jf X (.builtin "abs") (λxs H Q=>∃i,xs= [.int i]/\Q (.int (if i<0 then-i else i)) H):=by
 intro pins s σ H xs us Q I r h
 obtain⟨i,rfl,q⟩:=h
 obtain⟨u,rfl,t,rfl⟩:=jg r
 exact call_abs_int λu tk=>⟨.int (if i<0 then-i else i),H,I.tok _,⟨_,rfl⟩,q⟩
theorem pT(hc:X.calm=true):jf X (.builtin "min") (λxs H Q=>∃i j,xs= [.int i,.int j]/\Q (.int (if j<i then j else i)) H):=by
 intro pins s σ H xs us Q I r h
 obtain⟨i,j,rfl,q⟩:=h
 obtain⟨u,w',rfl,⟨t,rfl⟩,⟨t',rfl⟩⟩:=vals2 r
 refine min_two_ints (I.ok.hd hc) λh' tk k=>⟨_,H,I.kept k,?_,q⟩
 by_cases hj:j<i
 ·rw[aA hj,aA hj];exact⟨_,rfl⟩
 ·rw[ax hj,ax hj];exact⟨_,rfl⟩
theorem zk4:jf X (.type "int") (λxs H Q=>(∃i,xs= [.int i]/\Q (.int i) H)\/∃k,xs= [.bl k]/\Q (.int (if k then 1 else 0)) H):=by
 intro pins s σ H xs us Q I r h
 rcases h with⟨i,rfl,q⟩ | ⟨k,rfl,q⟩
 ·obtain⟨u,rfl,t,rfl⟩:=jg r
  exact call_int_int ⟨.int i,H,I,⟨_,rfl⟩,q⟩
 ·obtain⟨u,rfl,r1⟩:=jg r
  cases r1
  exact call_int_bool ⟨.int (if k then 1 else 0),H,I.tok _,⟨_,rfl⟩,q⟩
end
structure ql(h:Heap)(x dx C:Addr)(mA:Str->Option Value):Prop where
 obj:h.get? x=some (W.instObj C dx)
 ns:h.Ns1 dx mA
 ne:dx≠x
theorem zka(n:h.Ns1 dx mA):∃od,h.get? dx=some od/\∀name,W.lookIn name od=some (mA name):=by
 obtain⟨o,es,ep,ho,hd,hk,_,hm⟩:=n
 refine⟨o,ho,λname=>?_⟩
 have e:=hm name
 unfold nsFind findBy at e
 rw[<-Array.find?_toList]at e
 unfold W.lookIn
 rw[hd]
 dsimp only
 split
 ·rename_i y q
  rw[q]at e
  exact dA some e
 ·rename_i q
  rw[q]at e
  have a:es.toList.any (·.refKey)=false:=by
   rw[List.any_eq_false]
   intro y hy
   obtain⟨z,t,Ek⟩:=hk y (Array.mem_toList_iff.mp hy)
   simp[DictEntry.refKey,Ek]
  have a':¬es.toList.any (·.refKey)=true:=by rw[a];exact cb
  rw[ax a']
  exact dA some e
theorem ql.look{x:ah}(I:ql h x dx C mA):∃od,W.InstAt h x (W.instObj C dx) C (some od)/\∀name,W.lookIn name od=some (mA name):=
 let⟨od,ho,hl⟩:=zka I.ns
 ⟨od,⟨I.obj,rfl,rfl,ho⟩,hl⟩
section
variable {x:ah} {v:af}
theorem get_map{expr:ai}{Q:af->ag->Prop}(X:K.In s.heap)(I:ql s.heap x dx C mA)(hg:W.plainGet K C name=true)(hh:W.hasDictIn K C=true)
  (ha:W.findIn K (.ref C) name=some none) (hv:mA name=some v) (qT:W.handedIn v=true) (h:Q v {s with toks:=s.toks+1}):
  wpAny (model prog w) A (getAttr (.ref x) name expr) Q E s:=by
 obtain⟨od,J,hl⟩:=I.look
 exact W.get_value X J (W.plainGet_of hg).1 (W.findObj_own hh ha rfl (by rw[hl,hv])) qT h
theorem YJ{pl:Sem ai}{Q:af×aa af->ag->Prop}(X:K.In s.heap)(I:ql s.heap x dx C mA)(hg:W.plainGet K C name=true)
  (hf:W.findIn K (.ref C) name=some (some (.ref f))) (ht:W.isFn K (.ref f)=true) (hv:mA name=none) (h:Q (.ref f,[.ref x]) s):
  wpAny (model prog w) A (getMethod (.ref x) name pl) Q E s:=by
 obtain⟨od,J,hl⟩:=I.look
 exact W.method_fn X J (W.plainGet_of hg).1 (W.plainGet_of hg).2 hf (beq_iff_eq.mp ht) (by show(W.lookIn name od).map (·.isSome)=some false;rw[hl,hv];rfl) h
theorem afe{ns:aa Str}{Q:Unit->ag->Prop}(X:K.In s.heap)(I:ql s.heap x dx C mA)
  (hs:W.findIn K (.ref C) "__setattr__"=some (some (.builtin "object.__setattr__"))) (hp:W.plainOver K C=true) (ht:W.takerIn K C name=some none) (hh:W.hasDictIn K C=true)
  (hw:PySem.Within mA ns) (hsz:ns.length<=sizeLine)
  (h:∀h',ql h' x dx C (λy=>if y=name then some v else mA y)->Heap.SameBut dx s.heap h'->Q () {s with heap:=h',toks:=s.toks+2}):
  wpAny (model prog w) A (setAttr (.ref x) name v) Q E s:=by
 obtain⟨od,J,hl⟩:=I.look
 refine W.set_plain X J hs (W.osa_open (s:={s with toks:=s.toks+1}) (r:=none) X J hp ht λb=>?_)
 obtain⟨cd,hc,D4⟩:=W.any_some hh
 have hx:s.heap.get? x=some ⟨.ref C,some dx,.plain,#[]⟩:=I.obj
 refine aC (aR (aC (aC (wpAny_loadPart hx (aC (W.Looks.here (s:={s with toks:=s.toks+1}) (W.looks_clsIn X hc) ?_))))))
 rw[D4]
 refine aR (a:=some dx) (aC (aR (aC ?_)))
 refine wpAny_nsSet1 (s:={s with toks:=s.toks+1}) I.ns λh' qJ fU=>?_
 obtain⟨oD,esD,epD,qM,Zl,Zb⟩:=qJ.count (PySem.Within.cons name v hw)
 refine aC (wpAny_lookBehind qM (by rw[Zl];exact pastItsLine_dict (eA Zb (by rw[d5];omega))) ?_)
 exact aR (h _ ⟨(fU.2 _ (gH I.ne)).trans I.obj,qJ,I.ne⟩ fU)
theorem acH{R:Result->ag->Prop}{vs:aa af}{kw:aa (Str×af)}(X:K.In s.heap)(hm:W.makesIn K C=true)
  (hi:W.findIn K (.ref C) "__init__"=some (some (.ref f))) (hf:W.typeIn K (.ref f)=some (.type "function"))
  (h:codeAny (model prog w) (A.under (.builtin "type.__call__" ⟨.ref C::vs,kw⟩)) (.call (.ref f) ⟨.ref (s.heap.objs.size+1)::vs,kw⟩) (W.InitBack (s.heap.objs.size+1) R)
   {s with heap:=(s.heap.push W.emptyDict).push (W.instObj C s.heap.objs.size)}):
  codeAny (model prog w) A (.call (.ref C) ⟨vs,kw⟩) R s:=by
 obtain⟨hh,g,d,t,os⟩:=s
 exact W.make_core (W.makes_of X hm) (W.looks_findIn X hi) (λself=>W.bind_fn X self hf) (.inl rfl) h
end
noncomputable def ik(f:Str)(v:V):aa (Str×V)->aa (Str×V)
 | []=>[(f,v)]
 | (g,x)::r=>if g=f then(g,v)::r else(g,x)::ik f v r
theorem UQ(f g:Str)(v:V):∀fs:aa (Str×V),(ik f v fs).lookup g=if g=f then some v else fs.lookup g
 | []=>by
  show List.lookup g [(f,v)]=_
  by_cases h:g=f
  ·have hb:(g==f)=true:=beq_iff_eq.mpr h
   simp only[List.lookup,hb,aA h]
  ·have hb:(g==f)=false:=beq_eq_false_iff_ne.mpr h
   simp only[List.lookup,hb,ax h]
 | (k,x)::r=>by
  have ih:=UQ f g v r
  rw[show ik f v ((k,x)::r)=(if k=f then(k,v)::r else(k,x)::ik f v r)from rfl]
  by_cases hk:k=f
  ·rw[aA hk]
   by_cases h:g=k
   ·have hb:(g==k)=true:=beq_iff_eq.mpr h
    simp only[List.lookup,hb,aA (h.trans hk)]
   ·have hb:(g==k)=false:=beq_eq_false_iff_ne.mpr h
    simp only[List.lookup,hb,ax (λe:g=f=>h (e.trans hk.symm))]
  ·rw[ax hk]
   by_cases h:g=k
   ·have hb:(g==k)=true:=beq_iff_eq.mpr h
    simp only[List.lookup,hb,ax (λe:g=f=>hk (h.symm.trans e))]
   ·have hb:(g==k)=false:=beq_eq_false_iff_ne.mpr h
    simp only[List.lookup,hb]
    exact ih
theorem M7(f:Str)(v:V):∀fs:aa (Str×V),f∈(ik f v fs).map (·.1)/\∀g,g∈fs.map (·.1)->g∈(ik f v fs).map (·.1)
 | []=>⟨by simp[ik],λg h=>by simp at h⟩
 | (k,x)::r=>by
  obtain⟨i1,i2⟩:=M7 f v r
  rw[show ik f v ((k,x)::r)=(if k=f then(k,v)::r else(k,x)::ik f v r)from rfl]
  by_cases hk:k=f
  ·rw[aA hk]
   subst hk
   exact⟨by simp,λg h=>by simpa using h⟩
  ·rw[ax hk]
   refine⟨?_,λg h=>?_⟩
   ·rw[dO]
    exact cE _ i1
   ·rw[dO]at h ⊢
    rcases hZ.mp h with e|e
    ·exact hZ.mpr (.inl e)
    ·exact cE _ (i2 g e)
theorem UR(f:Str)(v:V):∀fs:aa (Str×V),(ik f v fs).length<=fs.length+1
 | []=>by simp[ik]
 | (k,x)::r=>by
  have ih:=UR f v r
  rw[show ik f v ((k,x)::r)=(if k=f then(k,v)::r else(k,x)::ik f v r)from rfl]
  by_cases hk:k=f
  ·rw[aA hk,d5,d5];omega
  ·rw[ax hk,d5,d5];omega
theorem gL.some_of{o:ae af}(r:gL (some v) o):∃u,o=some u/\RelV v u:=by
 cases o with
 |none=>exact(show False from r).elim
 |some u=>exact⟨u,rfl,r⟩
theorem gL.none_of{o:ae af}(r:gL none o):o=none:=by
 cases o with
 |none=>rfl
 |some u=>exact(show False from r).elim
theorem zkC(r:RelV v u):W.handedIn u=true:=by
 cases v with
 |aE=>cases(show u=Value.none from r);rfl
 |bl b=>cases(show u=Value.bool b from r);rfl
 |int i=>obtain⟨t,e⟩:=(show ∃t,u=Value.int i t from r);cases e;rfl
 |str x=>obtain⟨t,e⟩:=(show ∃t,u=Value.str x t from r);cases e;rfl
 |iF b=>obtain⟨t,e⟩:=(show ∃t,u=Value.bytes b t from r);cases e;rfl
 |nH b=>obtain⟨t,e⟩:=(show ∃t,u=Value.float b t from r);cases e;rfl
 |ref a=>cases(show u=Value.ref a from r);rfl
 |ty n=>cases(show u=Value.type n from r);rfl
section
variable {fs sY:aa (Str×V)}
theorem BG(aI:cG P w H h)(e:H a=some (.ins C dx fs)):∃mA,ql h a dx C mA/\(∀f,gL (fs.lookup f) (mA f))/\PySem.Within mA (fs.map (·.1))/\fs.length<=1000/\H dx=some (.own a):=by
 obtain⟨d,z,ne,ob,mA,n,r,q⟩:=(show c8 P w H h a (.ins C dx fs)from aI a _ e)
 exact⟨mA,⟨ob,n,ne⟩,r,q,z,d⟩
end
structure fE(K:W.Frag)(C:Addr):Prop where
 pg:W.plainGet K C Str.empty=true
 hd:W.hasDictIn K C=true
 po:W.plainOver K C=true
 sa:W.findIn K (.ref C) "__setattr__"=some (some (.builtin "object.__setattr__"))
theorem fE.get(c:fE K C)(f:Str):W.plainGet K C f=true:=c.pg
noncomputable def cz(K:W.Frag)(C:ah)(f:Str):Prop:=W.findIn K (.ref C) f=some none
theorem cz.agX{f:Str}(n:cz K C f):W.takerIn K C f=some none:=by
 unfold W.takerIn
 rw[show W.findIn K (.ref C) f=some none from n]
 rfl
structure Meth(K:W.Frag)(C:Addr)(m:Str)(f:Addr):Prop where
 at_:W.findIn K (.ref C) m=some (some (.ref f))
 fn:W.isFn K (.ref f)=true
 kp:W.keepIn K (.ref f)=true
section
variable {pins:aa (ah×Obj)} {fs:aa (Str×V)} {f:Str}
theorem UO{b:ai}{Q:af->ag->Prop}(I:Inv X pins σ H s)(e:H a=some (.ins C dx fs))(c:fE X.K C)(n:cz X.K C f)(l:fs.lookup f=some v)
  (h:∀u s',Inv X pins σ H s'->RelV v u->Q u s'):wpAny (model X.prog X.w) A (getAttr (.ref a) f b) Q E s:=by
 obtain⟨mA,O,r,_,_,_⟩:=BG I.aI e
 obtain⟨u,hu,ru⟩:=gL.some_of (v:=v) (o:=mA f) (by rw[<-l];exact r f)
 exact get_map I.dS O (c.get f) c.hd n hu (zkC ru) (h u _ (I.tok _) ru)
theorem UN{m:Str}{g:ah}{pl:Sem ai}{Q:af×aa af->ag->Prop}(I:Inv X pins σ H s)(e:H a=some (.ins C dx fs))(c:fE X.K C)(k:Meth X.K C m g)(l:fs.lookup m=none)
  (h:Q (.ref g,[.ref a]) s):wpAny (model X.prog X.w) A (getMethod (.ref a) m pl) Q E s:=by
 obtain⟨mA,O,r,_,_,_⟩:=BG I.aI e
 have hn:mA m=none:=gL.none_of (by rw[<-l];exact r m)
 exact YJ I.dS O (c.get m) k.at_ k.fn hn h
theorem UI{y:V}{Q:Unit->ag->Prop}(I:Inv X pins σ H s)(e:H a=some (.ins C dx fs))(c:fE X.K C)(n:cz X.K C f)(hl:fs.length<1000)(ry:RelV y u)
  (h:∀s',Inv X pins σ (upd H a (.ins C dx (ik f y fs))) s'->Q () s'):wpAny (model X.prog X.w) A (setAttr (.ref a) f u) Q E s:=by
 obtain⟨mA,O,r,wi,_,ho⟩:=BG I.aI e
 have hz:(fs.map (·.1)).length<=sizeLine:=by rw[bH,a7];omega
 refine afe I.dS O c.sa c.po n.agX c.hd wi hz λh' O' sb=>h _ ?_
 have hd:∃o,h'.get? dx=some o:=let⟨o,_,_,e',_⟩:=O'.ns;⟨o,e'⟩
 refine I.write (x:=a) (e:=dx) (by rw[e];exact True.intro) (.inr ho) (λb q hb z=>(sb.2 b hb).trans z) hd ?_
 refine⟨by rw[aw O.ne];exact ho,?_,O.ne,O'.obj,_,O'.ns,λg=>?_,λg hg=>?_⟩
 ·have:=UR f y fs;omega
 ·show gL ((ik f y fs).lookup g) (if g=f then some u else mA g)
  rw[UQ]
  by_cases q:g=f
  ·rw[aA q,aA q];exact ry
  ·rw[ax q,ax q];exact r g
 ·by_cases q:g=f
  ·rw[q];exact(M7 f y fs).1
  ·refine(M7 f y fs).2 g (wi g λz=>hg ?_)
   show(if g=f then some u else mA g)=none
   rw[ax q];exact z
theorem Inv.made(I:Inv X pins σ H s):Inv X pins σ (upd (upd H s.heap.objs.size (.own (s.heap.objs.size+1))) (s.heap.objs.size+1) (.ins C s.heap.objs.size []))
  {s with heap:=(s.heap.push W.emptyDict).push (W.instObj C s.heap.objs.size)}:=by
 have e1:(s.heap.push W.emptyDict).get? s.heap.objs.size=some W.emptyDict:=eR s.heap rfl
 have e2:((s.heap.push W.emptyDict).push (W.instObj C s.heap.objs.size)).get? (s.heap.objs.size+1)=some (W.instObj C s.heap.objs.size):=by
  have:=eR (s.heap.push W.emptyDict) (o:=W.instObj C s.heap.objs.size) rfl
  rwa [l_]at this
 have e3:(s.heap.push W.emptyDict).Ns s.heap.objs.size (λ_=>none):=⟨W.emptyDict,#[],_,e1,rfl,(λe he=>absurd he (by simp)),λ_=>rfl⟩
 have I1:=I.laid (a:=s.heap.objs.size) (o:=.own (s.heap.objs.size+1)) (h':=s.heap.push W.emptyDict) (t':=s.toks) (λb u q=>cL _ q) (bu _) ⟨_,e1⟩
 refine I1.laid (a:=s.heap.objs.size+1) (o:=.ins C s.heap.objs.size []) (t':=s.toks) (λb u q=>cL _ q) (u6 (l_ _ _)) ?_
 have ne:s.heap.objs.size≠s.heap.objs.size+1:=cU (oS _)
 refine⟨by rw[aw ne,aB],dD _,ne,e2,λ_=>none,(Heap.Ns1.of_empty e3).at λo q=>cL _ q,λ_=>True.intro,λy hy=>absurd rfl hy⟩
theorem Xu{prog:Program}{w:World}{e:Expr}{f:Str}{pos:Pos}{s:ag}{Q:af->ag->Prop}(hb:attributeBase e f env (eval e env)=eval e env)
  (h:wpAny (model prog w) A (eval e env) (λo s₁=>wpAny (model prog w) A (getAttr o f true) Q E s₁) E s):wpAny (model prog w) A (eval (.Attribute e f pos) env) Q E s:=
 Attribute_any_ h (by rw[arm_eval_Attribute,hb])
end
noncomputable def i9(K:W.Frag)(ta:TE)(f:Str):TE:=λσ H Q=>ta σ H λx H1=>∃a C dx fs v,x= .ref a/\H1 a=some (.ins C dx fs)/\fE K C/\cz K C f/\fs.lookup f=some v/\Q v H1
noncomputable def aey(K:W.Frag)(ta tv:TE)(f:Str):TS:=λD σ H=>tv σ H λy H1=>ta σ H1 λx H2=>∃a C dx fs,x= .ref a/\H2 a=some (.ins C dx fs)/\fE K C/\cz K C f/\fs.length<1000/\
 D.nx σ (upd H2 a (.ins C dx (ik f y fs)))
noncomputable def Ct(X:Cx)(op:Operator)(rd:V->V->Hp->VK->Prop):Prop:=
 ∀(pins:aa (ah×Obj)) (s:ag) (σ:St) (H:Hp) (x y:V) (u v:af) (Q:VK),Inv X pins σ H s->RelV x u->RelV y v->rd x y H Q->wpAny (model X.prog X.w) X.A (inplaceOp op u v) (EP X pins σ Q) X.xe s
noncomputable def aez(K:W.Frag)(ta tv:TE)(rd:V->V->Hp->VK->Prop)(f:Str):TS:=λD σ H=>ta σ H λx H1=>∃a C dx fs v,x= .ref a/\H1 a=some (.ins C dx fs)/\fE K C/\cz K C f/\fs.lookup f=some v/\
 tv σ H1 λy H2=>rd v y H2 λz H3=>∃pb sY,H3 a=some (.ins C pb sY)/\sY.length<1000/\D.nx σ (upd H3 a (.ins C pb (ik f z sY)))
section
variable {o e:Expr} {f:Str} {T_:Pos}
theorem aT(he:PE X e ta)(hb:attributeBase e f X.env (eval e X.env)=eval e X.env):PE X (.Attribute e f pos) (i9 X.K ta f):=by
 refine .mk ?_;intro pins s σ H Q I h
 refine Xu hb (aO (he pins s σ H _ I h) λu s1 ⟨x,H1,I1,rx,a,C,dx,fs,v,ex,ea,c,n,l,q⟩=>?_)
 subst ex
 obtain rfl:u=Value.ref a:=rx
 exact UO I1 ea c n l λu' s2 I2 ru=>⟨v,H1,I2,ru,q⟩
theorem dW(ha:PE X o ta)(hv:PE X value tv)(hs:swapsWith value (some (.Attribute o f pos')) pos.line X.env=pure false):PS X (.Assign [.Attribute o f pos'] value pos) (aey X.K ta tv f):=by
 refine .mk ?_;intro pins s σ H D I h
 refine plainObj_wpAny_Assign_Attribute (aO (hv pins s σ H _ I h) λu s1 ⟨y,H1,I1,ry,q⟩=>aO (ha pins s1 σ H1 _ I1 q) λov s2 ⟨x,H2,I2,rx,a,C,dx,fs,ex,ea,c,n,l,q2⟩=>?_) hs
 subst ex
 obtain rfl:ov=Value.ref a:=rx
 exact UI I2 ea c n l ry λs3 I3=>⟨σ,_,I3,q2⟩
theorem rH{op:Operator}{rd:V->V->Hp->VK->Prop}(ha:PE X o ta)(hv:PE X value tv)(hop:Ct X op rd):PS X (.AugAssign (.Attribute o f T_) op value pos) (aez X.K ta tv rd f):=by
 refine .mk ?_;intro pins s σ H D I h
 refine wpAny_AugAssign_AttributeAny (aO (ha pins s σ H _ I h) λov s1 ⟨x,H1,I1,rx,a,C,dx,fs,v,ex,ea,c,n,l,q⟩=>?_)
 subst ex
 obtain rfl:ov=Value.ref a:=rx
 refine UO I1 ea c n l λu s2 I2 ru=>aO (hv pins s2 σ H1 _ I2 q) λw3 s3 ⟨y,H2,I3,ry,q3⟩=>aO (hop pins s3 σ H2 v y u w3 _ I3 ru ry q3) λw4 s4 ⟨z,H3,I4,rz,pb,sY,Yf,l',q4⟩=>?_
 exact UI I4 Yf c n l' rz λs5 I5=>⟨σ,_,I5,q4⟩
noncomputable def aea:V->V->Hp->VK->Prop:=λx y H Q=>∃i j,x= .int i/\y= .int j/\Q (.int (i+j)) H
noncomputable def aej:V->V->Hp->VK->Prop:=λx y H Q=>∃i j,x= .int i/\y= .int j/\Q (.int (i-j)) H
theorem OL:Ct X .Add aea:=by
 rintro pins s σ H x y u v Q I rx ry ⟨i,j,rfl,rfl,q⟩
 obtain⟨t,rfl⟩:=(show ∃t,u=Value.int i t from rx)
 obtain⟨t',rfl⟩:=(show ∃t',v=Value.int j t' from ry)
 exact PyProof.Rows.iadd_int ⟨.int (i+j),H,I.tok _,⟨_,rfl⟩,q⟩
theorem BW:Ct X .Sub aej:=by
 rintro pins s σ H x y u v Q I rx ry ⟨i,j,rfl,rfl,q⟩
 obtain⟨t,rfl⟩:=(show ∃t,u=Value.int i t from rx)
 obtain⟨t',rfl⟩:=(show ∃t',v=Value.int j t' from ry)
 exact PyProof.Rows.isub_int ⟨.int (i-j),H,I.tok _,⟨_,rfl⟩,q⟩
end
section
variable {pins:aa (ah×Obj)} {c:af}
inductive iV(K:W.Frag)(H:Hp):V->Value->Prop where
 |aE:iV K H .aE (.type "NoneType")
 |bl (x:Bool):iV K H (.bl x) (.type "bool")
 |int (i:Int):iV K H (.int i) (.type "int")
 |str (x:Str):iV K H (.str x) (.type "str")
 |nH (x:UInt64):iV K H (.nH x) (.type "float")
 |lst {a:Addr} {xs:List V} (e:H a=some (.lst xs)):iV K H (.ref a) (.type "list")
 |iZ {a:Addr} {o:Obj} {xs:List V} (e:H a=some (.iZ o (.lst xs))):iV K H (.ref a) (.type "list")
 |tup {a:Addr} {xs:List V} (e:H a=some (.tup xs)):iV K H (.ref a) (.type "tuple")
 |dK {a:Addr} {kvs:List (Key×V)} (e:H a=some (.dK kvs)):iV K H (.ref a) (.type "dict")
 |dT {a:Addr} {kvs:List (List Key×V)} (e:H a=some (.dT kvs)):iV K H (.ref a) (.type "dict")
 |ins {a C dx:Addr} {fs:List (Str×V)} (e:H a=some (.ins C dx fs)) (cl:fE K C) (ha:W.findIn K (.ref C) "__class__"=some (some (.builtin "object.__class__")))
   (hn:W.specialIn K (.builtin "object.__class__") "__get__"=some (some (.builtin "getset_descriptor.__get__"))) (Rl:W.takesIn K (.builtin "object.__class__")=some true)
   (hm:W.mroIn K C (.type "object")=some true):iV K H (.ref a) (.ref C)
theorem zkt{x:V}{t:af}(I:Inv X pins σ H s)(rx:RelV x u)(ty:iV X.K H x t)(e:W.kitOne X.K t c=some b)(h:∀tk,Q (.bool b) {s with toks:=tk}):
  wpAny (model X.prog X.w) A (call (.builtin "isinstance") [u,c]) Q E s:=by
 cases ty with
 |aE=>cases(show u=Value.none from rx);exact kO W.kitx_none I.dS True.intro e (λz=>nomatch z) h
 |bl y=>cases(show u=Value.bool y from rx);exact kO W.kitx_bool I.dS True.intro e (λz=>nomatch z) h
 |int i=>obtain⟨t,q⟩:=(show ∃t,u=Value.int i t from rx);cases q;exact kO W.kitx_int I.dS True.intro e (λz=>nomatch z) h
 |str y=>obtain⟨t,q⟩:=(show ∃t,u=Value.str y t from rx);cases q;exact kO W.kitx_str I.dS True.intro e (λz=>nomatch z) h
 |nH y=>obtain⟨t,q⟩:=(show ∃t,u=Value.float y t from rx);cases q;exact kO W.kitx_float I.dS True.intro e (λz=>nomatch z) h
 | @lst a xs ea=>
  cases(show u=Value.ref a from rx)
  obtain⟨_,_,n,_,h1⟩:=(show c8 X.prog X.w H s.heap a (.lst xs)from I.aI a _ ea)
  exact kO W.kitx_list I.dS ⟨_,h1,rfl⟩ e (λz=>nomatch z) h
 | @iZ a ob xs ea=>
  cases(show u=Value.ref a from rx)
  obtain⟨_,_,_,n,_,h1⟩:=(show c8 X.prog X.w H s.heap a (.iZ ob (.lst xs))from I.aI a _ ea)
  exact kO W.kitx_list I.dS ⟨_,h1,rfl⟩ e (λz=>nomatch z) h
 | @tup a xs ea=>
  cases(show u=Value.ref a from rx)
  obtain⟨_,_,_,p⟩:=(show c8 X.prog X.w H s.heap a (.tup xs)from I.aI a _ ea)
  obtain⟨o,h1,h2,_⟩:=p
  exact kO W.kitx_tuple I.dS ⟨o,h1,h2⟩ e (λz=>nomatch z) h
 | @dK a kvs ea=>
  cases(show u=Value.ref a from rx)
  obtain⟨_,_,vs,_,p⟩:=(show c8 X.prog X.w H s.heap a (.dK kvs)from I.aI a _ ea)
  obtain⟨o,es,ep,h1,h2,_⟩:=p
  exact kO W.kitx_dict I.dS ⟨o,h1,h2.1⟩ e (λz=>nomatch z) h
 | @dT a kvs ea=>
  cases(show u=Value.ref a from rx)
  obtain⟨_,_,xs,_,o,es,ep,h1,h2,_⟩:=(show c8 X.prog X.w H s.heap a (.dT kvs)from I.aI a _ ea)
  exact kO W.kitx_dict I.dS ⟨o,h1,h2.1⟩ e (λz=>nomatch z) h
 | @ins a C dx fs ea cl ha hn Rl hm=>
  cases(show u=Value.ref a from rx)
  obtain⟨mA,O,_⟩:=BG I.aI ea
  obtain⟨od,J,_⟩:=O.look
  exact kO (W.kitx_own (cl.get _) cl.hd ha hn Rl hm) I.dS J e (λz=>nomatch z) h
end
structure bB(k:Nat)(A:Around):Prop where
 hd:A.handled=none
 dp:A.depth+3*k+5<recursionLimit
 un:A.units+16*k+200<cLine
theorem bB.mono{k:Nat}(r:bB k A)(h:j<=k):bB j A:=⟨r.hd,by have:=r.dp;omega,by have:=r.un;omega⟩
theorem bB.deeper{k:Nat}(r:bB (k+1) A)(env:Env):bB k (A.deeper env):=
 ⟨r.hd,by have:=r.dp;show A.depth+1+3*k+5<_;omega,by have:=r.un;show A.units+3+16*k+200<_;omega⟩
theorem ziP:(A.under (.builtin "type.__call__" ⟨.ref C::us,kw⟩)).depth=A.depth+1:=by
 first|rfl|simp[Around.under,Code.weight,Code.isCreation,Code.isGuard,Code.isCaller,Code.frames,Code.isFrame,guardIds]
theorem ziO:(A.under (.builtin "type.__call__" ⟨.ref C::us,kw⟩)).units=A.units+1:=by
 first|rfl|simp[Around.under,Code.cUnits,Code.frames,Code.isFrame]
theorem bB.make{k:Nat}(r:bB (k+1) A)(C:ah)(us:aa af)(kw:aa (Str×af)):bB k (A.under (.builtin "type.__call__" ⟨.ref C::us,kw⟩)):=
 ⟨r.hd,by have:=r.dp;rw[ziP];omega,by have:=r.un;rw[ziO];omega⟩
theorem bB.depth{k:Nat}(r:bB k A):A.depth<recursionLimit:=by have:=r.dp;omega
theorem bB.units{k:Nat}(r:bB k A):A.units+64<cLine:=by have:=r.un;omega
noncomputable def g7:TA:=λ_ H Q=>Q [] H
noncomputable def du(ta:TE)(tr:TA):TA:=λσ H Q=>ta σ H λx H1=>tr σ H1 λxs H2=>Q (x::xs) H2
section
variable {e:Expr}
theorem ay:PA X [] g7:=.mk λ_ _ _ _ H Q I h=>Calls.spliced_nil ⟨[],H,I,.nil,h⟩
theorem av(ha:PE X e te)(hr:PA X es t)(hs:starEach (e::es) X.env=(false,eval e X.env)::starEach es X.env:=by rfl):PA X (e::es) (du te t):=by
 refine .mk ?_;intro pos pins s σ H Q I h
 rw[hs]
 show wpAny _ _ (spliced ((false,eval e X.env)::backTo pos (starEach es X.env))) _ _ s
 refine Cd (aO (ha pins s σ H _ I h) λu s1 ⟨x,H1,I1,r1,q1⟩=>?_)
 exact aO (hr pos pins s1 σ H1 _ I1 q1) λus s2 ⟨xs,H2,I2,r2,q2⟩=>⟨x::xs,H2,I2,.cons r1 r2,q2⟩
noncomputable def rD(t:TA):TE:=λσ H Q=>t σ H λxs H1=>xs.length<=sizeLine/\∀p,H1 p=none->Q (.ref p) (upd H1 p (.tup xs))
noncomputable def agN(t:TA):TE:=λσ H Q=>t σ H λxs H1=>xs.length<=sizeLine/\∀p,H1 p=none->Q (.ref p) (upd H1 p (.lst xs))
theorem eM{x1}(h:PA X es t):PE X (.Tuple es x1 pos) (rD t):=by
 refine .mk ?_;intro pins s σ H Q I hq
 refine wpAny_Tuple_spliced (aO (h pos pins s σ H _ I hq) λus s1 ⟨xs,H1,I1,r,z,q⟩=>⟨by rw[<-r.length];exact z,?_⟩)
 have hf:H1 s1.heap.objs.size=none:=I1.aI.fresh (bu _)
 refine⟨.ref s1.heap.objs.size,upd H1 s1.heap.objs.size (.tup xs),I1.laid (t':=s1.toks) (λb u e=>cL _ e) (bu _) ?_,rfl,q _ hf⟩
 exact⟨z,us,r,⟨_,eR _ rfl,rfl,_,rfl⟩⟩
theorem fW(h:PA X es t):PE X (.List es pos) (agN t):=by
 refine .mk ?_;intro pins s σ H Q I hq
 refine wpAny_List_spliced (aO (h pos pins s σ H _ I hq) λus s1 ⟨xs,H1,I1,r,z,q⟩=>⟨by rw[<-r.length];exact z,?_⟩)
 have hf:H1 s1.heap.objs.size=none:=I1.aI.fresh (bu _)
 refine⟨.ref s1.heap.objs.size,upd H1 s1.heap.objs.size (.lst xs),I1.laid (t':=s1.toks) (λb u e=>cL _ e) (bu _) ?_,rfl,q _ hf⟩
 exact⟨z,us,0,r,eR _ rfl⟩
end
noncomputable abbrev Sp:=aa V->Hp->VK->XK->Prop
noncomputable abbrev jI:=aa Env->Hp->ag->XK->af->ag->Prop
structure qj(P:Program)(w:World)(K:W.Frag)(mg:Str->Option Value)(base:Heap)(A:Around)(outer:List Env)(s:Shared)(H:Hp):Prop where
 frames:A.frames=some outer
 mod:Mod K mg base
 bs:∀b o,base.get? b=some o->s.heap.get? b=some o/\H b=none
 kU:base.objs.size<=s.heap.objs.size
 i0:s.heap.FunFrames base outer
 mi:∀b∈eG outer,H b=none
 aI:cG P w H s.heap
 bare:AllBare s.gens
noncomputable def CE(outer:aa Env)(P:Program)(w:World)(H:Hp)(s:ag)(Q:VK)(u:af)(s':ag):Prop:=
 ∃v H',s'.os=s.os/\AllBare s'.gens/\Un (eG outer) [] H H' s.heap s'.heap/\cG P w H' s'.heap/\RelV v u/\Q v H'
noncomputable def CR(CX:jI)(outer:aa Env)(P:Program)(w:World)(H:Hp)(s:ag)(Q:VK)(E:XK)(r:Result)(s':ag):Prop:=
 match r with
 | .ok (.ret u)=>CE outer P w H s Q u s'
 | .ok _=>False
 | .error e=>CX outer H s E e s'
structure cJ(P:Program)(w:World)(K:W.Frag)(mg:Str->Option Value)(base:Heap)(CX:jI)(k:Nat)(f:Addr)(fd:FuncData)(ps:List Str)(sp:Sp):Prop where
 len:∀vs H Q E,sp vs H Q E->vs.length=ps.length
 run:∀(A:Around) (outer:List Env) (s:Shared) (H:Hp) (args:Args) (us:List Value) (vs:List V) (Q:VK) (E:XK),bB k A->qj P w K mg base A outer s H->BindsTo s fd args (ps.zip us)->Vals vs us->sp vs H Q E->
  codeAny (model P w) A (.call (.ref f) args) (CR CX outer P w H s Q E) s
theorem cJ.imp{CX:jI}{k:Nat}{sp xK:Sp}(F:cJ P w K mg base CX k f fd ps sp)
  (h:∀vs H Q E,xK vs H Q E->sp vs H Q E):cJ P w K mg base CX k f fd ps xK:=
 ⟨λvs H Q E q=>F.len vs H Q E (h _ _ _ _ q),λA outer s H args us vs Q E hr he hb hv hs=>F.run A outer s H args us vs Q E hr he hb hv (h _ _ _ _ hs)⟩
theorem qj.make(e:qj P w K mg base A outer s H)(C:ah)(us:aa af)(kw:aa (Str×af)):
  qj P w K mg base (A.under (.builtin "type.__call__" ⟨.ref C::us,kw⟩)) outer s H:=⟨by first|exact e.frames| (simpa [Around.under,Code.envs,Code.isFrame,pushEnvs]using e.frames),e.mod,e.bs,e.kU,e.i0,e.mi,e.aI,e.bare⟩
section
variable {pins:aa (ah×Obj)}
theorem Inv.Pu(I:Inv X pins σ H s):qj X.prog X.w X.K X.mg X.base X.A X.stack s H:=
 ⟨I.ok.frames,I.ok.mod,I.bs,eA I.ok.kU I.sz,I.stack,I.L0,I.aI,I.bare⟩
theorem Inv.after{Q:VK}(I:Inv X pins σ H s)(h:CE X.stack X.prog X.w H s Q u s'):EP X pins σ Q u s':=by
 obtain⟨v,H',os,bare,un,aI,r,q⟩:=h
 obtain⟨hh,g,d,t,os'⟩:=s'
 obtain rfl:os'=s.os:=os
 exact⟨v,H',I.call (h':=hh) (g':=g) (d':=d) (t':=t) (ch:=[]) un aI bare (λb z=>absurd z (by simp)),r,q⟩
end
noncomputable def uU(sp:Sp)(eU:aa V)(E:XK)(t:TA):TE:=λσ H Q=>t σ H λvs H1=>sp (vs++eU) H1 Q E
noncomputable def L4(C:ah)(m:Str)(sp:Sp)(eU:aa V)(E:XK)(ta:TE)(t:TA):TE:=λσ H Q=>ta σ H λx H1=>∃a dx fs,x= .ref a/\H1 a=some (.ins C dx fs)/\fs.lookup m=none/\
 t σ H1 λvs H2=>sp (x::(vs++eU)) H2 Q E
noncomputable def T5(C:ah)(sp:Sp)(eU:aa V)(E:XK)(t:TA):TE:=λσ H Q=>t σ H λvs H1=>∀x dx,H1 x=none->H1 dx=none->dx≠x->
 sp (.ref x::(vs++eU)) (upd (upd H1 dx (.own x)) x (.ins C dx [])) (λv H2=>v= .aE/\Q (.ref x) H2) E
noncomputable def gA(K:W.Frag)(fd:FuncData)(ps:aa Str)(ds:aa af):Prop:=
 ∀(s:ag) (us:aa af),K.In s.heap->(us++ds).length=ps.length->BindsTo s fd ⟨us,[]⟩ (ps.zip (us++ds))
theorem gA.all(h:∀us:aa af,us.length=ps.length->bindArgs fd ⟨us,[]⟩=pure (ps.zip us)):gA K fd ps []:=λs us _ hl=>by
 rw[B4]at hl ⊢
 exact .of_eq (h us hl)
noncomputable def j6(CX:jI)(X:Cx)(E:XK):Prop:=∀(pins:aa (ah×Obj)) (σ:St) (H:Hp) (s:ag) (e:af) (s':ag),Inv X pins σ H s->CX X.stack H s E e s'->X.xe e s'
section
variable {CX:jI} {k:Nat} {sp:Sp} {eU:aa V} {ds:aa af} {E:XK} {m:Str} {p:Pos} {e o:Expr}
theorem yv{pins:aa (ah×Obj)}{σ:St}{H:Hp}{s:ag}{Q:VK}{us:aa af}{vs:aa V}(F:cJ X.prog X.w X.K X.mg X.base CX k f fd ps sp)(hr:bB k X.A)(hb:gA X.K fd ps ds)(hd:Vals eU ds)(hx:j6 CX X E)
  (I:Inv X pins σ H s) (r:Vals vs us) (h:sp (vs++eU) H Q E):wpAny (model X.prog X.w) X.A (call (.ref f) us) (EP X pins σ Q) X.xe s:=by
 have r2:Vals (vs++eU) (us++ds):=r.append hd
 have hl:(us++ds).length=ps.length:=by rw[<-r2.length];exact F.len _ _ _ _ h
 refine wpAny_call (va (F.run X.A X.stack s H ⟨us,[]⟩ (us++ds) (vs++eU) Q E hr I.Pu (hb s us I.dS hl) r2 h) λr s' hq=>?_)
 cases r with
 |error e=>exact hx pins σ H s e s' I hq
 |ok fl=>
  cases fl with
  |ret u=>exact I.after hq
  |next=>exact False.elim hq
  |brk=>exact False.elim hq
  |cont=>exact False.elim hq
theorem kI(F:cJ X.prog X.w X.K X.mg X.base CX k f fd ps sp)(hr:bB k X.A)(hg:Gl X x)(hm:X.mg x=some (.ref f))(hk:W.keepIn X.K (.ref f)=true)(hb:gA X.K fd ps ds)(hd:Vals eU ds)(hx:j6 CX X E)
  (ha:PA X (e::es) t) (fq:(x==("__debug__":Str))=false:=by decide) (he:starEach (e::es) X.env=(false,eval e X.env)::starEach es X.env:=by rfl) (eX:(backTo pos (starEach es X.env)).any (·.1)=false:=by rfl):
  PE X (.Call (.Name x p) (e::es) [] pos) (uU sp eU E t):=by
 refine .mk ?_;intro pins s σ H Q I h
 refine sJ (rN I hg hm ?_ fq)
 refine W.callWith_K (h₀:=X.base) I.ok.mod.qY hk (aO (ha pos pins s σ H _ I h) λus s1 ⟨vs,H1,I1,r,q⟩=>⟨I1.dS,?_⟩) he eX
 exact yv F hr hb hd hx I1 r q
theorem adR(F:cJ X.prog X.w X.K X.mg X.base CX k f fd ps sp)(hr:bB k X.A)(hg:Gl X x)(hm:X.mg x=some (.ref f))(hk:W.keepIn X.K (.ref f)=true)(hb:gA X.K fd ps ds)(hd:Vals eU ds)(hx:j6 CX X E)
  (fq:(x==("__debug__":Str))=false:=by decide):PE X (.Call (.Name x p) [] [] pos) (uU sp eU E g7):=by
 refine .mk ?_;intro pins s σ H Q I h
 refine sJ (rN I hg hm ?_ fq)
 exact W.callWith_K0 I.dS hk (yv (us:=[]) F hr hb hd hx I .nil h)
theorem d0{pl:Sem ai}(he:PE X o ta)(c:fE X.K C)(hm:Meth X.K C m f)(F:cJ X.prog X.w X.K X.mg X.base CX k f fd ps sp)(hr:bB k X.A)(hb:gA X.K fd ps ds)(hd:Vals eU ds)(hx:j6 CX X E)(ha:PA X (e::es) t)
  (gn:starEach (e::es) X.env=(false,eval e X.env)::starEach es X.env:=by rfl) (eX:(backTo pos (starEach es X.env)).any (·.1)=false:=by rfl)
  (ht:eval (.Call (.Attribute o m apos) (e::es) [] pos) X.env=(do
   let ov <-eval o X.env
   standAt apos.atName
   let(f,first) <-holding [ov] (getMethod ov m pl)
   callWith pos f first (backTo pos (starEach (e::es) X.env)) (backToKw pos (keywordEach [] X.env))):=by rfl):
  PE X (.Call (.Attribute o m apos) (e::es) [] pos) (L4 C m sp eU E ta t):=by
 refine .mk ?_;intro pins s σ H Q I h
 refine W.methodCall_KW (pl:=pl) (aO (he pins s σ H _ I h) λu s1 ⟨x,H1,I1,rx,a,dx,fs,ex,ea,l,q⟩=>?_) ht
 subst ex
 obtain rfl:u=Value.ref a:=rx
 refine UN I1 ea c hm l ?_
 refine W.callWith_K (first:=[.ref a]) (h₀:=X.base) I.ok.mod.qY hm.kp (aO (ha pos pins s1 σ H1 _ I1 q) λus s2 ⟨vs,H2,I2,r,q2⟩=>⟨I2.dS,?_⟩) gn eX
 exact yv (us:=.ref a::us) (vs:=.ref a::vs) F hr hb hd hx I2 (.cons rfl r) q2
theorem m8{pl:Sem ai}(he:PE X o ta)(c:fE X.K C)(hm:Meth X.K C m f)(F:cJ X.prog X.w X.K X.mg X.base CX k f fd ps sp)(hr:bB k X.A)(hb:gA X.K fd ps ds)(hd:Vals eU ds)(hx:j6 CX X E)
  (ht:eval (.Call (.Attribute o m apos) [] [] pos) X.env=(do
   let ov <-eval o X.env
   standAt apos.atName
   let(f,first) <-holding [ov] (getMethod ov m pl)
   callWith pos f first (backTo pos (starEach [] X.env)) (backToKw pos (keywordEach [] X.env))):=by rfl):
  PE X (.Call (.Attribute o m apos) [] [] pos) (L4 C m sp eU E ta g7):=by
 refine .mk ?_;intro pins s σ H Q I h
 refine W.methodCall_KW (pl:=pl) (aO (he pins s σ H _ I h) λu s1 ⟨x,H1,I1,rx,a,dx,fs,ex,ea,l,q⟩=>?_) ht
 subst ex
 obtain rfl:u=Value.ref a:=rx
 refine UN I1 ea c hm l ?_
 exact W.callWith_K0 (first:=[.ref a]) I1.dS hm.kp (yv (us:=[.ref a]) (vs:=[.ref a]) F hr hb hd hx I1 (.cons rfl .nil) q)
structure Mk(K:W.Frag)(C f:Addr):Prop where
 makes:W.makesIn K C=true
 init:W.findIn K (.ref C) "__init__"=some (some (.ref f))
 fn:W.isFn K (.ref f)=true
 kp:W.keepIn K (.ref C)=true
theorem Vw{pins:aa (ah×Obj)}{σ:St}{H:Hp}{s:ag}{Q:VK}{us:aa af}{vs:aa V}(M:Mk X.K C f)(F:cJ X.prog X.w X.K X.mg X.base CX k f fd ps sp)(hr:bB (k+1) X.A)(hb:gA X.K fd ps ds)(hd:Vals eU ds)
  (hx:j6 CX X E) (I:Inv X pins σ H s) (r:Vals vs us)
  (h:∀x dx,H x=none->H dx=none->dx≠x->sp (.ref x::(vs++eU)) (upd (upd H dx (.own x)) x (.ins C dx [])) (λv H2=>v= .aE/\Q (.ref x) H2) E):
  wpAny (model X.prog X.w) X.A (call (.ref C) us) (EP X pins σ Q) X.xe s:=by
 have hq:=h (s.heap.objs.size+1) s.heap.objs.size (I.aI.fresh (kM _)) (I.aI.fresh (bu _)) (cU (oS _))
 have I2:=Inv.made (C:=C) I
 have r2:Vals (V.ref (s.heap.objs.size+1)::(vs++eU)) (Value.ref (s.heap.objs.size+1)::(us++ds)):=.cons rfl (r.append hd)
 have hl:(Value.ref (s.heap.objs.size+1)::us++ds).length=ps.length:=by
  have e:=r2.length
  rw[F.len _ _ _ _ hq]at e
  exact e.symm
 refine wpAny_call (acH (f:=f) I.dS M.makes M.init (beq_iff_eq.mp M.fn) (va (F.run _ X.stack _ _ ⟨Value.ref (s.heap.objs.size+1)::us,[]⟩ (Value.ref (s.heap.objs.size+1)::(us++ds)) _ _ E (hr.make C us [])
  (I2.Pu.make C us []) (hb _ (Value.ref (s.heap.objs.size+1)::us) I2.dS hl) r2 hq) λr s' wM=>?_))
 cases r with
 |error e=>exact hx pins σ _ _ e s' I2 wM
 |ok fl=>
  cases fl with
  |ret u=>
   obtain⟨v,H',I3,rv,ev,q3⟩:=I2.after wM
   subst ev
   exact⟨rv,⟨V.ref (s.heap.objs.size+1),H',I3,rfl,q3⟩⟩
  |next=>exact False.elim wM
  |brk=>exact False.elim wM
  |cont=>exact False.elim wM
theorem Wb(M:Mk X.K C f)(F:cJ X.prog X.w X.K X.mg X.base CX k f fd ps sp)(hr:bB (k+1) X.A)(hg:Gl X x)(hm:X.mg x=some (.ref C))(hb:gA X.K fd ps ds)(hd:Vals eU ds)(hx:j6 CX X E)
  (ha:PA X (e::es) t) (fq:(x==("__debug__":Str))=false:=by decide) (he:starEach (e::es) X.env=(false,eval e X.env)::starEach es X.env:=by rfl) (eX:(backTo pos (starEach es X.env)).any (·.1)=false:=by rfl):
  PE X (.Call (.Name x p) (e::es) [] pos) (T5 C sp eU E t):=by
 refine .mk ?_;intro pins s σ H Q I h
 refine sJ (rN I hg hm ?_ fq)
 refine W.callWith_K (h₀:=X.base) I.ok.mod.qY M.kp (aO (ha pos pins s σ H _ I h) λus s1 ⟨vs,H1,I1,r,q⟩=>⟨I1.dS,?_⟩) he eX
 exact Vw M F hr hb hd hx I1 r q
theorem VP(M:Mk X.K C f)(F:cJ X.prog X.w X.K X.mg X.base CX k f fd ps sp)(hr:bB (k+1) X.A)(hg:Gl X x)(hm:X.mg x=some (.ref C))(hb:gA X.K fd ps ds)(hd:Vals eU ds)(hx:j6 CX X E)
  (fq:(x==("__debug__":Str))=false:=by decide):PE X (.Call (.Name x p) [] [] pos) (T5 C sp eU E g7):=by
 refine .mk ?_;intro pins s σ H Q I h
 refine sJ (rN I hg hm ?_ fq)
 exact W.callWith_K0 I.dS M.kp (Vw (us:=[]) M F hr hb hd hx I .nil h)
end
section
variable {CX:jI} {k:Nat} {ks:aa Str} {sp:Sp} {E:XK} {m:Str} {p akl:Pos} {e o:Expr} {kws:aa Keyword} {tk:TA} {nm:ae Str}
variable {g:aa af->aa af->aa af} {gV:aa V->aa V->aa V}
end
structure bc(N P:List Str)(sc:Scope):Prop where
 kind:sc.kind= .function
 co:sc.isCoroutine=false
 gen:sc.isGenerator=false
 nd:N.Nodup
 pre:N.take P.length=P
 par:∀x∈P,sc.names.lookup x=some .local\/sc.names.lookup x=some .cell
 adg:∀y∈sc.names,y.2≠.free
theorem UX:∀{binds:aa (Str×af)} {m:Str->ae af},(∀v,(x,v)∉binds)->bindL kindOf binds m x=m x
 | [],_,_=>rfl
 | (n,v)::r,m,h=>by
  unfold bindL
  rw[UX λw hw=>h w (cE _ hw)]
  split
  ·have:x≠n:=by rintro rfl;exact h v bA
   simp[this]
  ·rfl
theorem UZ:∀{binds:aa (Str×af)} {m:Str->ae af},(∀v,(x,v)∉binds)->bindC kindOf binds m x=m x
 | [],_,_=>rfl
 | (n,v)::r,m,h=>by
  unfold bindC
  rw[UZ λw hw=>h w (cE _ hw)]
  split
  ·rfl
  ·have:x≠n:=by rintro rfl;exact h v bA
   simp[this]
theorem UY{v:af}:∀{P:aa Str} {vs:aa af} {i:Nat} {m:Str->ae af},P.Nodup->P[i]?=some x->vs[i]?=some v->kindOf x=some .local->
  bindL kindOf (P.zip vs) m x=some v
 | [],_,_,_,_,h,_,_=>by simp at h
 |_::_,[],_,_,_,_,h,_=>by simp at h
 |p::P,w::vs,0,m,nd,h1,h2,hk=>by
  simp at h1 h2;subst h1;subst h2
  show bindL kindOf ((p,w)::P.zip vs) m p=_
  unfold bindL
  rw[UX λv hv=>(List.nodup_cons.mp nd).1 (List.of_mem_zip hv).1,aA hk]
  simp
 |p::P,w::vs,i+1,m,nd,h1,h2,hk=>by
  show bindL kindOf ((p,w)::P.zip vs) m x=_
  unfold bindL
  exact UY (i:=i) (List.nodup_cons.mp nd).2 (by simpa using h1) (by simpa using h2) hk
theorem U0{v:af}:∀{P:aa Str} {vs:aa af} {i:Nat} {m:Str->ae af},P.Nodup->P[i]?=some x->vs[i]?=some v->kindOf x≠some .local->
  bindC kindOf (P.zip vs) m x=some v
 | [],_,_,_,_,h,_,_=>by simp at h
 |_::_,[],_,_,_,_,h,_=>by simp at h
 |p::P,w::vs,0,m,nd,h1,h2,hk=>by
  simp at h1 h2;subst h1;subst h2
  show bindC kindOf ((p,w)::P.zip vs) m p=_
  unfold bindC
  rw[UZ λv hv=>(List.nodup_cons.mp nd).1 (List.of_mem_zip hv).1,ax hk]
  simp
 |p::P,w::vs,i+1,m,nd,h1,h2,hk=>by
  show bindC kindOf ((p,w)::P.zip vs) m x=_
  unfold bindC
  exact U0 (i:=i) (List.nodup_cons.mp nd).2 (by simpa using h1) (by simpa using h2) hk
noncomputable def lV(N:aa Str)(vs:aa V):St:=vs.map some++List.replicate (N.length-vs.length) none
noncomputable def jo(CX:jI)(P:Program)(w:World)(K:W.Frag)(mg:Str->ae af)(base:aj)(N:aa Str)(qual:Str)(scope:Scope)(f:ah)(cd:af)(A:Around)(outer:aa Env)(s:ag)(H:Hp)(E:XK):Cx where
 prog:=P
 w:=w
 K:=K
 mg:=mg
 base:=base
 A:=A.deeper (envOfC qual scope s.heap.objs.size f cd)
 N:=N
 s₀:=s
 H₀:=H
 env:=envOfC qual scope s.heap.objs.size f cd
 outer:=outer
 stack:=envOfC qual scope s.heap.objs.size f cd::outer
 ex:=[]
 calm:=true
 fn:=λ_=>true
 pn:=[]
 xe:=λe s'=>wpAny (model P w) (A.deeper (envOfC qual scope s.heap.objs.size f cd)) (leaving (envOfC qual scope s.heap.objs.size f cd) e) (λ_ Lw=>CX outer H s E e Lw) (λe' Lw=>CX outer H s E e' Lw) s'
theorem VL{sc:Scope}(h:sc.names.lookup x=some .cell):∃c,(cellsFrom n sc.names []).lookup x=some c:=by
 have q:=W.cellsFrom_some sc.names n [] (.inl h)
 exact Option.isSome_iff_exists.mp q
theorem zku{CX:jI}{P:Program}{w:World}{K:W.Frag}{mg:Str->ae af}{base:aj}{N ps:aa Str}{qual:Str}{scope:Scope}{f:ah}{cd:af}{A:Around}{outer:aa Env}{s s1:ag}{H:Hp}{E:XK}{us:aa af}{vs:aa V}
  (S:bc N ps scope) (hd:A.handled=none) (e0:qj P w K mg base A outer s H) (hl:vs.length=ps.length) (r:Vals vs us)
  (x:InCallC s s.heap.objs.size (bindL (envOfC qual scope s.heap.objs.size f cd).kindOf (ps.zip us) λ_=>none) (cellsFrom (s.heap.objs.size+1) scope.names []) (bindC (envOfC qual scope s.heap.objs.size f cd).kindOf (ps.zip us) λ_=>none) s1):
  Inv (jo CX P w K mg base N qual scope f cd A outer s H E) [] (lV N vs) H s1:=by
 have eX:ps.length<=N.length:=by have:=dA List.length S.pre;rw[iT]at this;omega
 obtain⟨h1,tk,rfl,hk⟩:=x.done
 have xl:∀b:ah,b∉(jo CX P w K mg base N qual scope f cd A outer s H E).ex:=λb z=>absurd (show b∈([]:aa ah)from z) (by simp)
 refine⟨⟨e0.mod,S.kind,rfl,rfl,bu _,λy z c h1 h2=>?_,λy hy=>?_,λy c _ h=>?_,λ_=>hd,Around.frames_deeper e0.frames,.inr ⟨rfl,rfl⟩,λb z=>absurd z (xl b),e0.bs,e0.kU,λb _ _=>xl b,λb z=>absurd z (xl b),e0.i0,e0.mi⟩,
  rfl,e0.bare,Un.kept hk,⟨_,x.toInCall.ns,λi y v h1 h2 h3=>?_⟩,λy c h=>⟨_,x.cell y c h⟩,e0.aI.fresh (bu _),λy c h=>?_,λp hp=>absurd (show p∈([]:aa (ah×Obj))from hp) (by simp),e0.aI.kept hk,?_⟩
 ·exact name_of_addr x.apart (ni h1) (ni h2)
 ·have hy:scope.names.lookup y=some .cell\/scope.names.lookup y=some .free:=hy
  rcases hy with hy|hy
  ·exact VL hy
  ·exact absurd rfl (S.adg _ (ni hy))
 ·exact lZ (x.above y c (ni h))
 ·have hi:i<vs.length:=by
   unfold lV at h2
   by_cases hi:i<vs.length
   ·exact hi
   ·rw[OP (by simpa using hi)]at h2
    rw[yF]at h2
    split at h2<;>cases h2
  have ha:vs[i]?=some v:=by
   unfold lV at h2
   rw[OO (by simpa using hi),fN]at h2
   cases e:vs[i]? with
   |none=>rw[e]at h2;cases h2
   |some a=>rw[e]at h2;cases h2;rfl
  obtain⟨u,hu,rv⟩:=r.get ha
  have hp:ps[i]?=some y:=by
   rw[<-S.pre,List.getElem?_take_of_lt (by omega)];exact h1
  have SA:ps.Nodup:=by rw[<-S.pre];exact S.nd.sublist (List.take_sublist _ _)
  refine⟨u,rv,?_⟩
  rcases S.par y (d6 hp)with k|k
  ·exact .inl ⟨k,UY SA hp hu k⟩
  ·obtain⟨c,e⟩:=VL (n:=s.heap.objs.size+1) k
   refine .inr ⟨.inl k,c,e,?_⟩
   have q:=x.cell y c e
   rw[U0 SA hp hu (by show scope.names.lookup y≠_;rw[k];decide)]at q
   exact q
 ·exact e0.aI.fresh (lZ (x.above y c (ni h)))
 ·unfold lV
  show _=N.length
  rw[gF,bH,List.length_replicate]
  omega
theorem YB{CX:jI}{P:Program}{w:World}{K:W.Frag}{mg:Str->ae af}{base:aj}{k:Nat}{f:ah}{name qual:Str}{params:Arguments}{body:aa Stmt}{scope:Scope}{dV kV doc pm cF ct oc:af}{an od:ae ah}
  {lH:Array (ae af)} {N ps:aa Str} {sp:Sp} (lk:K.lookup f=some ⟨oc,od,.func (W.fnOf name qual params body scope dV kV doc pm an cF ct),lH⟩) (ku:W.codeIn K cF qual=true) (S:bc N ps scope)
  (len:∀vs H Q E,sp vs H Q E->vs.length=ps.length)
  (v5:∀(A:Around) (outer:aa Env) (s:ag) (H:Hp) (vs:aa V) (Q:VK) (E:XK),bB k (A.deeper (envOfC qual scope s.heap.objs.size f cF))->sp vs H Q E->
   ∃t,gJ (jo CX P w K mg base N qual scope f cF A outer s H E) body t/\t {nx:=λ_ H'=>Q .aE H',rt:=Q} (lV N vs) H):
  cJ P w K mg base CX (k+1) f (W.fnOf name qual params body scope dV kV doc pm an cF ct) ps sp:=by
 refine⟨len,λA outer s H args us vs Q E hr e0 hb r iM=>?_⟩
 have hl:=len _ _ _ _ iM
 have KX:K.In s.heap:=e0.mod.qY.keeps λb o e=>(e0.bs b o e).1
 have lim:s.heap.NoLimit:=e0.mod.nolimit.keeps λb o e=>(e0.bs b o e).1
 have iL:∀y∈ps.zip us,scope.names.lookup y.1=some .local\/(scope.names.lookup y.1=some .cell/\((cellsFrom (s.heap.objs.size+1) scope.names []).lookup y.1).isSome=true):=λ⟨n,v⟩ hy=>by
  rcases S.par n (List.of_mem_zip hy).1 with q|q
  ·exact .inl q
  ·exact .inr ⟨q,W.cellsFrom_some _ _ _ (.inl q)⟩
 refine codeAny_call_function hr.depth (KX _ _ lk) rfl S.co S.gen rfl (W.codeRec_of KX ku) (hb _ _ _ _ ?_)
 refine wpAny_newFunctionEnv_cells S.kind iL λenv he s1 x=>?_
 subst he
 refine⟨lim.keeps x.toInCall.keep,codeAny_func ?_⟩
 obtain⟨t,ht,hq⟩:=v5 A outer s H vs Q E (hr.deeper _) iM
 have I:Inv (jo CX P w K mg base N qual scope f cF A outer s H E) [] (lV N vs) H s1:=zku S hr.hd e0 hl r x
 refine gU (ht [] s1 (lV N vs) H _ I hq) (λfl s' hs=>?_) λe s' hs=>hs
 have fin:∀{σ':St} {H':Hp} {v:V} {u:af},Inv (jo CX P w K mg base N qual scope f cF A outer s H E) [] σ' H' s'->RelV v u->Q v H'->CE outer P w H s Q u s':=
  λ{σ' H' v u} J rv q=>⟨v,H',J.os,J.bare,J.base,J.aI,rv,q⟩
 cases fl with
 |ret u=>
  obtain⟨v,σ',H',J,rv,q⟩:=hs
  exact fin J rv q
 |next=>
  obtain⟨σ',H',J,q⟩:=hs
  exact fin (v:=V.aE) (u:=Value.none) J rfl q
 |brk=>
  obtain⟨_,_,_,q⟩:=hs
  exact False.elim q
 |cont=>
  obtain⟨_,_,_,q⟩:=hs
  exact False.elim q
end L2
variable {CX:L2.jI} {sp:L2.Sp}
namespace L2
open PySem PySem.Spec PyProof.Rows
section
variable {p:Pos} {e:Expr} {id T:String} {r:aa V->Hp->VK->Prop}
noncomputable def xN(r:aa V->Hp->VK->Prop)(t:TA):TE:=λσ H Q=>t σ H λvs H1=>r vs H1 Q
theorem c9(hc:jf X (.builtin id) r)(hg:Gl X x)(hm:X.mg x=none)(hv:bootBuiltins x=some (.builtin id))(ha:PA X (e::es) t)(hn:x≠"__name__":=by decide)(fq:(x==("__debug__":Str))=false:=by decide)
  (he:starEach (e::es) X.env=(false,eval e X.env)::starEach es X.env:=by rfl) (eX:(backTo pos (starEach es X.env)).any (·.1)=false:=by rfl):PE X (.Call (.Name x p) (e::es) [] pos) (xN r t):=by
 refine .mk ?_;intro pins s σ H Q I h
 refine sJ (yr I hg hm hv ?_ hn fq)
 exact PyProof.Rows.callWith_builtin1 (aO (ha pos pins s σ H _ I h) λus s1 ⟨vs,H1,I1,r1,q1⟩=>hc pins s1 σ H1 vs us Q I1 r1 q1) he eX
theorem x9(hc:jf X (.type T) r)(hg:Gl X x)(hm:X.mg x=none)(hv:bootBuiltins x=some (.type T))(ha:PA X (e::es) t)(hn:x≠"__name__":=by decide)(fq:(x==("__debug__":Str))=false:=by decide)
  (he:starEach (e::es) X.env=(false,eval e X.env)::starEach es X.env:=by rfl) (eX:(backTo pos (starEach es X.env)).any (·.1)=false:=by rfl):PE X (.Call (.Name x p) (e::es) [] pos) (xN r t):=by
 refine .mk ?_;intro pins s σ H Q I h
 refine sJ (yr I hg hm hv ?_ hn fq)
 exact PyProof.Rows.callWith_type1 (aO (ha pos pins s σ H _ I h) λus s1 ⟨vs,H1,I1,r1,q1⟩=>hc pins s1 σ H1 vs us Q I1 r1 q1) he eX
end
end L2
namespace HT
open PySem PyProof.Rows
noncomputable def lexLt:aa Int->aa Int->ai
 | [],[]=>false
 | [],_::_=>true
 |_::_,[]=>false
 |x::xs,y::ys=>if x=y then lexLt xs ys else decide (x<y)
theorem q_(x y:Int)(xs ys:aa Int):lexLt (x::xs) (y::ys)=if x=y then lexLt xs ys else decide (x<y):=rfl
theorem RY:lexLt [] []=false:=rfl
theorem zeK(y:Int)(ys:aa Int):lexLt [] (y::ys)=true:=rfl
theorem zeL(x:Int)(xs:aa Int):lexLt (x::xs) []=false:=rfl
theorem Yk(A:Around)(s:ag)(a:Int)(t:Tok)(c:Int)(u:Tok):∃e,SeqAt.EqAt A s (.int a t) (.int c u) e/\(e=true↔a=c):=
 ⟨(a==c),SeqAt.EqAt.int_int a t c u,by simp⟩
theorem aem(A:Around)(s:ag)(a:Int)(t:Tok)(c:Int)(u:Tok)(prog:Program)(w:World)(E:af->ag->Prop)(Q:af->ag->Prop)(h:Q (.bool (decide (a<c))) s):
  wpAny (model prog w) A (richCompare .Lt (.int a t) (.int c u)) Q E s:=
 (PyProof.Rows.lt_int h:wpAny (model prog w) A (compareOp .Lt (.int a t) (.int c u)) Q E s)
section
open PySem.SeqAt
open PySem.AutoSeq1 (wpAny_loadPart')
open PySem.MeetsSeq PySem.MeetsSeq2 PySem.MeetsSeq3
theorem ze5(l b:ah)(items mO:Array af)(n n2:Nat)(dd Dm:ae ah)(sl LR:Array (ae af))(ns ms:aa Int)(hi:IntsAre items.toList ns)(hj:IntsAre mO.toList ms):
  Meets (Builtin.«tuple.__lt__» ⟨[.ref l,.ref b],[]⟩)
   (λ_ R s=>s.heap.get? l=some {cls:=.type "tuple",dict:=dd,data:=.seq items n,slots:=sl}/\s.heap.get? b=some {cls:=.type "tuple",dict:=Dm,data:=.seq mO n2,slots:=LR}/\
    R (.ok (.ret (.bool (lexLt ns ms)))) s):=
 .of_wp λprog w A R s h=>by
  obtain⟨hp,g,d,tk,os⟩:=s;obtain⟨hl,hb,h⟩:=h
  have f2:=AutoSeq1.sub_tuple_tuple
  have z1:items.size=ns.length:=by rw[<-hi.length];simp
  have z2:mO.size=ms.length:=by rw[<-hj.length];simp
  wp_walk using wpAny_loadPart' hl,wpAny_loadPart' hb,wpAny_forIn_list _ (λrest b s'=>b.1=none/\s'=⟨hp,g,d,tk,os⟩/\∃(vs ws:aa af) (pK tZ:aa Int),rest=vs.zip ws/\
   IntsAre vs pK/\IntsAre ws tZ/\pK.length+mO.size=tZ.length+items.size/\R (.ok (.ret (.bool (lexLt pK tZ)))) ⟨hp,g,d,tk,os⟩) _
  case turn=>
   rintro⟨y,x⟩ rest b s' ⟨cZ,rfl,vs,ws,pK,tZ,hz,E6,z_,hlen,hR⟩
   cases E6 with
   |nil=>rw[List.zip_nil_left]at hz;cases hz
   |cons a t aaS=>
    cases z_ with
    |nil=>rw[List.zip_nil_right]at hz;cases hz
    |cons c u aaV=>
     rw[List.zip_cons_cons]at hz
     injection hz with mM EU
     injection mM with hy hx
     subst hy hx
     rw[q_]at hR
     simp only[d5]at hlen
     obtain⟨e,he,QF⟩:=Yk A.in1 ⟨hp,g,d,tk,os⟩ a t c u
     refine aC (he prog w _ _ ?_)
     cases e with
     |true=>
      rw[aA (QF.mp rfl)]at hR
      wp_walk
      exact⟨rfl,rfl,_,_,_,_,EU,aaS,aaV,by omega,hR⟩
     |false=>
      rw[ax (λq=>absurd (QF.mpr q) cb)]at hR
      have hri:=aem A.in1 ⟨hp,g,d,tk,os⟩ a t c u prog w
      wp_walk using hri
      exact⟨_,rfl,by simpa using hR⟩
  case fin=>
   rintro⟨b1,b2⟩ s' ⟨cZ,rfl,vs,ws,pK,tZ,hz,E6,z_,hlen,hR⟩
   simp only at cZ
   subst cZ
   have hv:lexLt pK tZ=decide (items.size<mO.size):=by
    cases E6 with
    |nil=>
     cases z_ with
     |nil=>
      simp only[yH]at hlen
      rw[RY]
      exact(cW (by omega)).symm
     |cons c u hw=>
      simp only[yH,d5]at hlen
      rw[zeK]
      exact(bO (by omega)).symm
    |cons a t hv=>
     cases z_ with
     |nil=>
      simp only[yH,d5]at hlen
      rw[zeL]
      exact(cW (by omega)).symm
     |cons c u hw=>
      rw[List.zip_cons_cons]at hz
      cases hz
   rw[hv]at hR
   wp_walk
   exact⟨_,rfl,by simpa [Builtin.Tuple.tupleCompareSizes]using hR⟩
  case h=>
   exact⟨rfl,rfl,items.toList,mO.toList,ns,ms,rfl,hi,hj,by omega,h⟩
end
section
theorem Fs{l b:ah}{items mO:Array af}{ms:aa Int}{Q:af->ag->Prop}(hl:IsTup s.heap l items)(hb:IsTup s.heap b mO)(hi:IntsAre items.toList ns)(hj:IntsAre mO.toList ms)
  (hu:A.units<cLine) (h:Q (.bool (lexLt ns ms)) s):wpAny (model prog w) A (compareOp .Lt (.ref l) (.ref b)) Q E s:=by
 obtain⟨⟨cls,dd,data,sl⟩,ho,hc,n,hd⟩:=id hl
 obtain⟨⟨ajK,Dm,data2,LR⟩,qL,tu,n2,hd2⟩:=id hb
 simp only at hc hd tu hd2
 subst hc hd tu hd2
 exact richCompare_meets_room (op:=.Lt) ⟨_,ho,rfl⟩ ⟨_,qL,rfl⟩ PySem.F.slot_tuple_lt PySem.F.entry_tuple_lt (PySem.F.args_tuple_lt_2 _ _) (ze5 l b items mO n n2 dd Dm sl LR ns ms hi hj)
  ⟨ho,qL,show Value.bool (lexLt ns ms)≠Value.notImplemented/\Q (.bool (lexLt ns ms)) s from⟨(λx=>nomatch x),h⟩⟩ hu
end
end HT
namespace L2
open PySem PySem.Spec PyProof.Rows
theorem uB:∀{us:aa af},Vals (ns.map V.int) us->IntsAre us ns:=by
 induction ns with
 |nil=>intro us r;rw[List.map_nil]at r;cases r;exact .nil
 |cons n ns ih=>
  intro us r
  rw[dO]at r
  cases r with
  |cons r1 r2=>
   obtain⟨t,e⟩:=r1
   subst e
   exact .cons n t (ih r2)
section
variable {e:Expr} {lo hi:ae Expr} {tl th:TO} {p2:Pos}
noncomputable def aeg(K:W.Frag):R2:=λx y H Q=>∃a b ns ms,x= .ref a/\y= .ref b/\aM K H a (ns.map V.int)/\aM K H b (ms.map V.int)/\Q (.bl (HT.lexLt ns ms)) H
theorem adC(hu:X.A.units<cLine):d7 X (compareOp .Lt) (aeg X.K):=by
 intro pins s σ H x y v u Q I rx ry h
 obtain⟨a,b,ns,ms,rfl,rfl,ha,hb,q⟩:=h
 cases rx
 cases ry
 obtain⟨its,r1,p1,_⟩:=I.tuple ha
 obtain⟨abk,r2,p2,_⟩:=I.tuple hb
 have i1:IntsAre its.toArray.toList ns:=uB r1
 have i2:IntsAre abk.toArray.toList ms:=uB r2
 exact HT.Fs p1 p2 i1 i2 hu ⟨.bl (HT.lexLt ns ms),H,I,rfl,q⟩
end
noncomputable def pG(n:Nat)(i:Int):ae Nat:=if 0<=i then(if i<n then some i.toNat else none)else if-(n:Int)<=i then some (i+n).toNat else none
noncomputable def kT{α:Type}(xs:aa α)(i:Int):ae α:=(pG xs.length i).bind λj=>xs[j]?
theorem WR{i:Int}(h:pG n i=some j):seqIndex? i n=some j/\j<n/\-(n:Int)<=i/\i<n:=by
 unfold pG at h
 by_cases h0:0<=i
 ·rw[aA h0]at h
  by_cases h1:i<n
  ·rw[aA h1]at h
   have e:i.toNat=j:=cq h
   exact⟨by rw[seqIndex_of h0 h1,e],by omega,by omega,h1⟩
  ·rw[ax h1]at h;cases h
 ·rw[ax h0]at h
  by_cases h1: -(n:Int)<=i
  ·rw[aA h1]at h
   have e:(i+n).toNat=j:=cq h
   exact⟨by rw[seqIndex_neg (by omega) h1,e],by omega,h1,by omega⟩
  ·rw[ax h1]at h;cases h
theorem Wq{α:Type}{xs:aa α}{i:Int}{v:α}(h:kT xs i=some v):∃j,seqIndex? i xs.length=some j/\xs[j]?=some v/\j<xs.length/\-(xs.length:Int)<=i/\i<xs.length:=by
 unfold kT at h
 cases e:pG xs.length i with
 |none=>rw[e]at h;cases h
 |some j=>
  rw[e]at h
  obtain⟨h1,h2,h3,h4⟩:=WR e
  exact⟨j,h1,h,h2,h3,h4⟩
theorem bf{α:Type}{xs:aa α}{v:α}(h:xs[j]?=some v):kT xs (j:Int)=some v:=by
 have hj:j<xs.length:=(List.getElem?_eq_some_iff.mp h).1
 have e:pG xs.length (j:Int)=some j:=by
  unfold pG
  rw[aA (by omega),aA (by omega)];simp
 unfold kT;rw[e];exact h
noncomputable def Xb(b:Expr):Prop:=∀o i,subscripted b false o i=operate [o,i] (getItem o i)
noncomputable def vk(X:Cx)(r:R2):Prop:=
 ∀(value slice:Expr) (pins:aa (ah×Obj)) (s:ag) (σ:St) (H:Hp) (x y:V) (v u:af) (Q:VK),Inv X pins σ H s->RelV x v->RelV y u->r x y H Q->
  subscripted slice false v u=operate [v,u] (getItem v u)->wpAny (model X.prog X.w) X.A (subscriptTail value slice v u) (EP X pins σ Q) X.xe s
noncomputable def vn(X:Cx)(id:String)(r:V->aa V->Hp->VK->Prop):Prop:=
 ∀(pins:aa (ah×Obj)) (s:ag) (σ:St) (H:Hp) (x:V) (xs:aa V) (v:af) (us:aa af) (Q:VK),Inv X pins σ H s->RelV x v->Vals xs us->r x xs H Q->
  wpAny (model X.prog X.w) X.A (call (.builtin id) (v::us)) (EP X pins σ Q) X.xe s
section
variable {a b:Expr} {tb:TE}
theorem cv{r:R2}(hr:vk X r)(ha:PE X a ta)(hb:PE X b tb)(hs:Xb b):PE X (.Subscript a b pos) (e7 r ta tb):=by
 refine .mk ?_;intro pins s σ H Q I h
 exact Subscript_ (C5 ha hb I h λv u s2 x y H2 I2 rx ry q=>hr a b pins s2 σ H2 x y v u Q I2 rx ry q (hs _ _))
noncomputable def ue(K:W.Frag):R2:=λx y H Q=>∃p xs i v,x= .ref p/\y= .int i/\aK K H p xs/\kT xs i=some v/\Q v H
noncomputable def dC(K:W.Frag):R2:=λx y H Q=>∃p xs i v,x= .ref p/\y= .int i/\aM K H p xs/\kT xs i=some v/\Q v H
theorem g9:vk X (ue X.K):=by
 intro value slice pins s σ H x y v u Q I rx ry h hs
 obtain⟨p,xs,i,z,rfl,rfl,hq,he,q⟩:=h
 cases rx
 obtain⟨t,rfl⟩:=ry
 obtain⟨its,r,pl,hz⟩:=I.list hq
 obtain⟨j,h1,h2,h3,h4,h5⟩:=Wq he
 obtain⟨w,ew,fB⟩:=r.get h2
 have hl:=r.length
 have hn:=BV
 have fin:EP X pins σ Q w s:=⟨z,H,I,fB,q⟩
 by_cases h0:0<=i
 ·have hj:i.toNat=j:=by
   rw[seqIndex_of h0 h5]at h1
   exact cq h1
  exact item_listR pl.isList h0 (by omega) (by rw[hj];simpa using ew) fin hs
 ·have hj:(i+(its.toArray.size:Int)).toNat=j:=by
   rw[seqIndex_neg (by omega) h4]at h1
   rw[eP,<-hl]
   exact cq h1
  exact subscriptTail_builtinR (x:=w) pl.isList.typeIs slot_list_getitem.lookup
   (wpAny_getItem_list_neg (Q:=λr s'=>r=w/\EP X pins σ Q r s') pl.isList (by omega) (by rw[eP]<;>omega) (by omega) (by rw[hj];simpa using ew) ⟨rfl,fin⟩) hs
theorem dI:vk X (dC X.K):=by
 intro value slice pins s σ H x y v u Q I rx ry h hs
 obtain⟨p,xs,i,z,rfl,rfl,hq,he,q⟩:=h
 cases rx
 obtain⟨t,rfl⟩:=ry
 obtain⟨its,r,pl,hz⟩:=I.tuple hq
 obtain⟨j,h1,h2,h3,h4,h5⟩:=Wq he
 obtain⟨w,ew,fB⟩:=r.get h2
 have hl:=r.length
 have hn:=BV
 have fin:EP X pins σ Q w s:=⟨z,H,I,fB,q⟩
 exact subscriptTail_builtinR (x:=w) pl.typeIs slot_tuple_getitem.lookup
  (getItem_tuple (j:=j) (Q:=λr s'=>r=w/\EP X pins σ Q r s') pl (by omega) (by omega) (by rw[eP,<-hl];exact h1) (by simpa using ew) ⟨rfl,fin⟩) hs
noncomputable def qc:V->ai
 | .aE=>true
 | .bl _=>true
 | .int _=>true
 | .str _=>true
 |_=>false
noncomputable def nG:V->V->ai
 | .aE,.aE=>true
 | .bl a,.bl b=>a==b
 | .bl a,.int b=>(if a then 1 else 0)==b
 | .int a,.bl b=>a==(if b then 1 else 0)
 | .int a,.int b=>a==b
 | .str a,.str b=>a==b
 |_,_=>false
theorem Yj{y x:V}{v:af}(ry:RelV y u)(rx:RelV x v)(fy:qc y=true)(fx:qc x=true):SeqAt.EqAt A s u v (nG y x):=by
 cases y with
 |aE=>
  cases ry
  cases x with
  |aE=>cases rx;exact SeqAt.EqAt.same _
  |bl b=>cases rx;exact SeqAt.EqAt.none_bool b
  |int b=>obtain⟨t,rfl⟩:=rx;exact SeqAt.EqAt.none_int b t
  |str b=>obtain⟨t,rfl⟩:=rx;exact SeqAt.EqAt.none_str b t
  |_=>exact absurd (show false=true from fx) cb
 |bl a=>
  cases ry
  cases x with
  |aE=>cases rx;exact SeqAt.EqAt.bool_none a
  |bl b=>cases rx;exact SeqAt.EqAt.bool_bool a b
  |int b=>obtain⟨t,rfl⟩:=rx;exact SeqAt.EqAt.bool_int a b t
  |str b=>obtain⟨t,rfl⟩:=rx;exact SeqAt.EqAt.bool_str a b t
  |_=>exact absurd (show false=true from fx) cb
 |int a=>
  obtain⟨t',rfl⟩:=ry
  cases x with
  |aE=>cases rx;exact SeqAt.EqAt.int_none a t'
  |bl b=>cases rx;exact SeqAt.EqAt.int_bool a t' b
  |int b=>obtain⟨t,rfl⟩:=rx;exact SeqAt.EqAt.int_int a t' b t
  |str b=>obtain⟨t,rfl⟩:=rx;exact SeqAt.EqAt.int_str a t' b t
  |_=>exact absurd (show false=true from fx) cb
 |str a=>
  obtain⟨t',rfl⟩:=ry
  cases x with
  |aE=>cases rx;exact SeqAt.EqAt.str_none a t'
  |bl b=>cases rx;exact SeqAt.EqAt.str_bool a t' b
  |int b=>obtain⟨t,rfl⟩:=rx;exact SeqAt.EqAt.str_int a t' b t
  |str b=>obtain⟨t,rfl⟩:=rx;exact SeqAt.EqAt.str_str a t' b t
  |_=>exact absurd (show false=true from fx) cb
 |_=>exact absurd (show false=true from fy) cb
noncomputable def iY(x:V)(u:af):ai:=match u with
 | .none=>nG .aE x
 | .bool b=>nG (.bl b) x
 | .int i _=>nG (.int i) x
 | .str z _=>nG (.str z) x
 |_=>false
theorem Py{x y:V}(r:RelV y u)(f:qc y=true):iY x u=nG y x:=by
 cases y with
 |aE=>cases r;rfl
 |bl b=>cases r;rfl
 |int i=>obtain⟨t,rfl⟩:=r;rfl
 |str z=>obtain⟨t,rfl⟩:=r;rfl
 |_=>exact absurd (show false=true from f) cb
theorem yl{x:V}:∀{xs:aa V} {us:aa af},Vals xs us->xs.all qc=true->us.any (iY x)=xs.any λy=>nG y x
 |_,_,.nil,_=>rfl
 |y::xs,u::us,.cons r t,f=>by
  rw[List.all_cons,BZ]at f
  rw[sv,sv,Py r f.1,yl t f.2]
theorem yf{x:V}{v:af}(rx:RelV x v)(fx:qc x=true):∀{xs:aa V} {us:aa af},Vals xs us->xs.all qc=true->∀u∈us,SeqAt.EqAt A s u v (iY x u)
 |_,_,.nil,_=>λu hu=>by cases hu
 |y::xs,u::us,.cons r t,f=>λu' hu=>by
  rw[List.all_cons,BZ]at f
  rcases hZ.mp hu with rfl|hu
  ·rw[Py r f.1];exact Yj r rx f.1 fx
  ·exact yf rx fx t f.2 u' hu
noncomputable def wX(x:V)(xs:aa V):ai:=xs.any λy=>nG y x
noncomputable def Tb(K:W.Frag)(neg:ai):R2:=λx y H Q=>∃p xs,y= .ref p/\(aK K H p xs\/aM K H p xs)/\qc x=true/\xs.all qc=true/\Q (.bl (if neg then !wX x xs else wX x xs)) H
theorem Vv:d7 X (compareOp .In) (Tb X.K false):=by
 intro pins s σ H x y v u Q I rx ry h
 obtain⟨p,xs,rfl,hq,fx,fs,q⟩:=h
 cases ry
 rcases hq with hq|hq
 ·obtain⟨its,r,pl,hz⟩:=I.list hq
  refine SeqAt.in_listAt (iY x) pl.isList (λw hw=>yf rx fx r fs w (by simpa using hw)) ⟨.bl _,H,I,rfl,?_⟩
  rw[show its.toArray.any (iY x)=its.any (iY x) by simp,yl r fs]
  exact q
 ·obtain⟨its,r,pl,hz⟩:=I.tuple hq
  refine SeqAt.in_tupleAt (iY x) pl (λw hw=>yf rx fx r fs w (by simpa using hw)) ⟨.bl _,H,I,rfl,?_⟩
  rw[show its.toArray.any (iY x)=its.any (iY x) by simp,yl r fs]
  exact q
theorem Ut:d7 X (compareOp .NotIn) (Tb X.K true):=by
 intro pins s σ H x y v u Q I rx ry h
 obtain⟨p,xs,rfl,hq,fx,fs,q⟩:=h
 cases ry
 rcases hq with hq|hq
 ·obtain⟨its,r,pl,hz⟩:=I.list hq
  refine SeqAt.notIn_listAt (iY x) pl.isList (λw hw=>yf rx fx r fs w (by simpa using hw)) ⟨.bl _,H,I,rfl,?_⟩
  rw[show its.toArray.any (iY x)=its.any (iY x) by simp,yl r fs]
  exact q
 ·obtain⟨its,r,pl,hz⟩:=I.tuple hq
  refine SeqAt.notIn_tupleAt (iY x) pl (λw hw=>yf rx fx r fs w (by simpa using hw)) ⟨.bl _,H,I,rfl,?_⟩
  rw[show its.toArray.any (iY x)=its.any (iY x) by simp,yl r fs]
  exact q
theorem A5:jf X (.builtin "len") (λxs H Q=>∃p ys,xs= [.ref p]/\(aK X.K H p ys\/aM X.K H p ys)/\Q (.int ys.length) H):=by
 intro pins s σ H xs us Q I r h
 obtain⟨p,ys,rfl,hq,q⟩:=h
 obtain⟨u,rfl,rx⟩:=jg r
 cases rx
 have hn:=BV
 rcases hq with hq|hq
 ·obtain⟨its,r',pl,hz⟩:=I.list hq
  have hlen:=r'.length
  exact Calls.call_len_list pl.isList (by simp only[eP]<;>omega) ⟨.int ys.length,H,I.tok _,⟨s.toks+1,by rw[eP,hlen]⟩,q⟩
 ·obtain⟨its,r',pl,hz⟩:=I.tuple hq
  have hlen:=r'.length
  exact len_tuple pl (by simp only[eP]<;>omega) ⟨.int ys.length,H,I.tok _,⟨s.toks+1,by rw[eP,hlen]⟩,q⟩
theorem zg2:jf X (.type "list") (λxs H Q=>∃p ys,xs= [.ref p]/\(aK X.K H p ys\/aM X.K H p ys)/\∀l,H l=none->Q (.ref l) (upd H l (.lst ys))):=by
 intro pins s σ H xs us Q I r h
 obtain⟨p,ys,rfl,hq,q⟩:=h
 obtain⟨u,rfl,rx⟩:=jg r
 cases rx
 have fin:∀(its:aa af),Vals ys its->ys.length<=sizeLine->∀(h':aj) (c':Nat),(∀b o',s.heap.get? b=some o'->h'.get? b=some o')->
   h'.get? s.heap.objs.size=some {cls:=.type "list",dict:=none,data:=.seq its.toArray c',slots:=#[]}->EP X pins σ Q (.ref s.heap.objs.size) {s with heap:=h'}:=λits r' hz h' c' kp e=>
  ⟨.ref s.heap.objs.size,_,I.laid (t':=s.toks) kp (bu _) (show c8 X.prog X.w _ h' _ (.lst ys)from⟨hz,its,c',r',e⟩),rfl,q _ (I.aI.fresh (bu _))⟩
 rcases hq with hq|hq
 ·obtain⟨its,r',pl,hz⟩:=I.list hq
  have hlen:=r'.length
  obtain⟨o,ho,hc,n,hd⟩:=pl.isList
  exact call_list_seq p (.inl rfl) ho hc hd (λh' c' kp e=>fin its r' hz h' c' kp e) (by simp only[eP]<;>omega)
 ·obtain⟨its,r',pl,hz⟩:=I.tuple hq
  have hlen:=r'.length
  obtain⟨o,ho,hc,n,hd⟩:=pl
  exact call_list_seq p (.inr rfl) ho hc hd (λh' c' kp e=>fin its r' hz h' c' kp e) (by simp only[eP]<;>omega)
noncomputable def Mb(K:W.Frag)(T:String)(x:V)(H:Hp):Prop:=match x with
 | .str _=>T="str"
 | .int _=>T="int"
 | .ref p=>(T="list"/\∃xs,aK K H p xs)\/(T="tuple"/\∃o,K.lookup p=some o/\o.cls= .type "tuple"/\o.dict=none)\/
   (T="dict"/\((∃kvs,H p=some (.dK kvs))\/∃kvs,H p=some (.dT kvs)))\/(T="set"/\∃S n,H p=some (.set S n))
 |_=>False
theorem Ub{T:String}{x:V}{v:af}(I:Inv X pins σ H s)(r:RelV x v)(ty:Mb X.K T x H):
  s.TypeIs v T/\∀a,v= .ref a->∃ob,s.heap.get? a=some ob/\ob.dict=none:=by
 cases x with
 |str z=>
  obtain⟨t,rfl⟩:=r
  cases(show T="str" from ty)
  exact⟨typeIs_str s z t,λ_ e=>nomatch e⟩
 |int i=>
  obtain⟨t,rfl⟩:=r
  cases(show T="int" from ty)
  exact⟨typeIs_int s i t,λ_ e=>nomatch e⟩
 |ref p=>
  cases r
  rcases ty with⟨rfl,xs,hq⟩ | ⟨rfl,o,hk,hc,hd⟩ | ⟨rfl,hk⟩ | ⟨rfl,S,n,hk⟩
  ·obtain⟨its,_,pl,_⟩:=I.list hq
   refine⟨pl.isList.typeIs,λa e=>?_⟩
   cases e
   obtain⟨o,n,e,c,hd,_⟩:=pl
   exact⟨o,e,hd⟩
  ·refine⟨⟨o,I.dS p o hk,hc⟩,λa e=>?_⟩
   cases e
   exact⟨o,I.dS _ o hk,hd⟩
  ·have z:∃o,s.heap.get? p=some o/\o.ExactDict:=by
    rcases hk with⟨kvs,hk⟩ | ⟨kvs,hk⟩
    ·obtain⟨_,_,_,_,o,_,_,e,ex,_⟩:=I.aI p _ hk
     exact⟨o,e,ex⟩
    ·obtain⟨_,_,_,_,o,_,_,e,ex,_⟩:=I.aI p _ hk
     exact⟨o,e,ex⟩
   obtain⟨o,e,ex⟩:=z
   refine⟨⟨o,e,ex.1⟩,λa e2=>?_⟩
   cases e2
   exact⟨o,e,ex.2.1⟩
  ·obtain⟨o,_,_,_,e,ex,_⟩:=I.aI p _ hk
   refine⟨⟨o,e,ex.1⟩,λa e2=>?_⟩
   cases e2
   exact⟨o,e,ex.2.1⟩
 |_=>exact False.elim ty
noncomputable def agx(K:W.Frag)(T:String)(r:V->aa V->Hp->VK->Prop)(to:TE):TE:=λσ H Q=>to σ H λx H1=>Mb K T x H1/\r x [] H1 Q
noncomputable def tBM(K:W.Frag)(T:String)(r:V->aa V->Hp->VK->Prop)(to:TE)(t:TA):TE:=λσ H Q=>to σ H λx H1=>Mb K T x H1/\t σ H1 λxs H2=>r x xs H2 Q
variable {o e:Expr} {to:TE} {T id:String} {r:V->aa V->Hp->VK->Prop}
theorem S5(pa:PlainAttrs T)(slot:Slot T name id)(E4:typeOf (.builtin id)=pure (.type "method_descriptor"))(hm:vn X id r)(ho:PE X o to)
  (DY:attributeBase o name X.env (eval o X.env)=eval o X.env:=by rfl) (zE:(apos.endLine==d_.line)=true:=by rfl):PE X (.Call (.Attribute o name apos) [] [] d_) (agx X.K T r to):=by
 refine .mk ?_;intro pins s σ H Q I h
 refine wpAny_Call_method0_late DY zE (aO (ho pins s σ H _ I h) λv s1 ⟨x,H1,I1,r1,ty,q1⟩=>?_)
 obtain⟨h1,h2⟩:=Ub I1 r1 ty
 exact⟨T,id,pa,slot,E4,h1,h2,Cb rfl (PySem.evalArgs_none (hm pins s1 σ H1 x [] v [] Q I1 r1 .nil q1))⟩
theorem lX(pa:PlainAttrs T)(slot:Slot T name id)(E4:typeOf (.builtin id)=pure (.type "method_descriptor"))(hm:vn X id r)(ho:PE X o to)(ha:PA X (e::es) t)
  (DY:attributeBase o name X.env (eval o X.env)=eval o X.env:=by rfl)
  (ZA:((backTo d_ (starEach (e::es) X.env)).all (λx=>!x.1)&&(backToKw d_ (keywordEach [] X.env)).all (λx=>x.1.isSome)
   &&decide ((e::es).length+([]:aa Keyword).length+(if([]:aa Keyword).isEmpty then 0 else 1)<30))=true:=by rfl)
  (zE:(apos.endLine==d_.line)=true:=by rfl) (hs:starEach (e::es) X.env=(false,eval e X.env)::starEach es X.env:=by rfl) (aaq:(backTo d_ (starEach es X.env)).any (·.1)=false:=by rfl):
  PE X (.Call (.Attribute o name apos) (e::es) [] d_) (tBM X.K T r to t):=by
 refine .mk ?_;intro pins s σ H Q I h
 refine wpAny_Call_method_late DY ZA zE rfl (aO (ho pins s σ H _ I h) λv s1 ⟨x,H1,I1,r1,ty,q1⟩=>?_)
 obtain⟨h1,h2⟩:=Ub I1 r1 ty
 refine⟨T,id,pa,slot,E4,h1,h2,?_⟩
 have hA:=ha d_ pins s1 σ H1 _ I1 q1
 rw[hs]at hA ⊢
 refine Cb (by show(false||(backTo d_ (starEach es X.env)).any (·.1))=false;rw[aaq]<;>rfl) (Cc ?_)
 exact aO hA λus s2 ⟨vs,H2,I2,r2,q2⟩=>hm pins s2 σ H2 x vs v us Q I2 r1 r2 q2
/- xs.append(e),list.index on a aks tuple .. are vn facts of 06m -/
end
noncomputable def vm(X:Cx)(id:String)(r:V->aa V->Hp->VK->Prop):Prop:=
 ∀(pins:aa (ah×Obj)) (s:ag) (σ:St) (H:Hp) (x:V) (xs:aa V) (v:af) (us:aa af) (Q:VK),Inv X pins σ H s->RelV x v->Vals xs us->r x xs H Q->
  wpAny (model X.prog X.w) X.A (call (.builtin id) (v::us)) (EP X pins σ Q) X.xe s
theorem Vals.one{x:V}(h:Vals [x] us):∃u,us= [u]/\RelV x u:=by
 cases h with
 |cons r h=>cases h;exact⟨_,rfl,r⟩
theorem Vals.two{x y:V}(h:Vals [x,y] us):∃u v,us= [u,v]/\RelV x u/\RelV y v:=by
 cases h with
 |cons r h=>
  obtain⟨v,rfl,q⟩:=Vals.one h
  exact⟨_,v,rfl,r,q⟩
theorem Vals.eraseIdx:∀{xs:aa V} {us:aa af} (i:Nat),Vals xs us->Vals (xs.eraseIdx i) (us.eraseIdx i)
 |_,_,_,.nil=>.nil
 |_,_,0,.cons _ t=>t
 |_,_,i+1,.cons r t=>.cons r (Vals.eraseIdx i t)
theorem U5{α:Type}:∀(l:aa α) (i:Nat),(l.eraseIdx i).length<=l.length
 | [],_=>bu _
 |_::_,0=>kM _
 |_::r,i+1=>Nat.succ_le_succ (U5 r i)
section
variable {pins:aa (ah×Obj)} {l b:ah} {xs zs:aa V}
theorem Inv.Fq{its its':aa af}{n:Nat}{f:Array af->Array af}{t':Nat}(I:Inv X pins σ H s)(hH:H l=some (.lst xs))
  (e:s.heap.get? l=some {cls:=.type "list",data:=.seq its.toArray n}) (hf:f its.toArray=its'.toArray) (hv:Vals ys its') (hz:ys.length<=sizeLine):
  Inv X pins σ (upd H l (.lst ys)) {s with heap:=s.heap.update l (Obj.mapSeq f),toks:=t'}:=by
 have q:=PySem.IsL.update e f
 rw[hf]at q
 refine I.write (x:=l) (e:=l) (by rw[hH];exact trivial) (.inl rfl) (λb' u hb hu=>(Cf s.heap (Obj.mapSeq f) (gH hb)).trans hu) ⟨_,q⟩ ?_
 exact⟨hz,its',_,hv,q⟩
theorem Inv.w_(I:Inv X pins σ H s)(hH:H l=some (.lst xs)):xs.length<=sizeLine/\∃(its:aa af) (n:Nat),Vals xs its/\xs.length=its.length/\s.heap.get? l=some {cls:=.type "list",data:=.seq its.toArray n}:=by
 obtain⟨z,its,n,r,e⟩:=I.aI l _ hH
 exact⟨z,its,n,r,r.length,e⟩
end
section
noncomputable def aeb:V->aa V->Hp->VK->Prop:=λx vs H Q=>∃l xs y,x= .ref l/\vs= [y]/\H l=some (.lst xs)/\xs.length<sizeLine/\Q .aE (upd H l (.lst (xs++ [y])))
theorem rJ:vm X "list.append" aeb:=by
 intro pins s σ H x vs v us Q I rx rv h
 obtain⟨l,xs,y,rfl,rfl,hH,hz,q⟩:=h
 cases rx
 obtain⟨u,rfl,ru⟩:=rv.one
 obtain⟨z,its,n,r,hl,e⟩:=I.w_ hH
 refine call_meets F.slot_list_append ⟨_,e,rfl⟩ F.entry_list_append (F.args_list_append_2 _ _) (PySem.list_append l its.toArray n u (by rw[eP];omega)) ⟨e,?_⟩
 refine⟨.aE,_,I.Fq (its':=its++ [u]) hH e (by simp) (r.append (.cons ru .nil)) ?_,rfl,q⟩
 rw[gF,u3]
 omega
noncomputable def aei:V->aa V->Hp->VK->Prop:=λx vs H Q=>∃l xs i k y,x= .ref l/\vs= [.int i]/\H l=some (.lst xs)/\-(2^63)<=i/\i<2^63/\seqIndex? i xs.length=some k/\xs[k]?=some y/\Q y (upd H l (.lst (xs.eraseIdx k)))
theorem acY:vm X "list.pop" aei:=by
 intro pins s σ H x vs v us Q I rx rv h
 obtain⟨l,xs,i,k,y,rfl,rfl,hH,h1,h2,hk,hy,q⟩:=h
 cases rx
 obtain⟨u,rfl,ru⟩:=rv.one
 obtain⟨t,rfl⟩:=ru
 obtain⟨z,its,n,r,hl,e⟩:=I.w_ hH
 obtain⟨w,hw,fB⟩:=r.get hy
 refine call_meets F.slot_list_pop ⟨_,e,rfl⟩ F.entry_list_pop (F.args_list_pop_2 _ _)
  (MeetsSeq.list_pop_at l its.toArray n i t k w (fitsIndex_both h1 h2) (by rw[eP,<-hl];exact hk) (by rw[<-sq];exact hw) (by rw[eP];omega)) ⟨e,?_⟩
 refine⟨y,_,I.Fq (its':=its.eraseIdx k) hH e ?_ (r.eraseIdx k) ?_,fB,q⟩
 ·show its.toArray.eraseIdxIfInBounds k=(its.eraseIdx k).toArray
  rw[List.eraseIdxIfInBounds_toArray]
 ·have:=U5 xs k
  omega
end
section
end
section
end
section
variable {κ:Type} [DecidableEq κ]
noncomputable def bQ(kvs:aa (κ×V))(k:κ):ae V:=(kvs.find? λkv=>decide (kv.1=k)).map (·.2)
noncomputable def putK(kvs:aa (κ×V))(k:κ)(v:V):aa (κ×V):=
 if(kvs.any λkv=>decide (kv.1=k))=true then kvs.map (λkv=>if kv.1=k then(kv.1,v)else kv)else kvs++ [(k,v)]
noncomputable def gS(kvs:aa (κ×V))(k:κ):aa (κ×V):=kvs.filter λkv=>decide (kv.1≠k)
theorem jC{p:κ×V}{r:aa (κ×V)}{k:κ}(e:p.1=k):bQ (p::r) k=some p.2:=by simp[bQ,uY,e]
theorem jb{p:κ×V}{r:aa (κ×V)}{k:κ}(e:¬p.1=k):bQ (p::r) k=bQ r k:=by simp[bQ,uY,e]
theorem rR(k:κ):∀kvs:aa (κ×V),(kvs.any λkv=>decide (kv.1=k))=(bQ kvs k).isSome
 | []=>rfl
 |p::r=>by
  rw[sv]
  by_cases e:p.1=k
  ·simp only[jC e,bO e,Bool.true_or,Option.isSome_some]
  ·rw[jb e,cW e,Bool.false_or];exact rR k r
theorem VE(k j:κ)(y:V):∀kvs:aa (κ×V),bQ (kvs.map λkv=>if kv.1=k then(kv.1,y)else kv) j=(bQ kvs j).map λx=>if j=k then y else x
 | []=>rfl
 |p::r=>by
  have ih:=VE k j y r
  rw[dO]
  by_cases h:p.1=k
  ·rw[aA h]
   by_cases e:p.1=j
   ·rw[jC (p:=(p.1,y)) e,jC e,Ca,aA (e.symm.trans h)]
   ·rw[jb (p:=(p.1,y)) e,jb e,ih]
  ·rw[ax h]
   by_cases e:p.1=j
   ·rw[jC (p:=p) e,jC e,Ca,ax (λz=>h (e.trans z))]
   ·rw[jb (p:=p) e,jb e,ih]
theorem Vh(k j:κ)(y:V):∀kvs:aa (κ×V),bQ kvs k=none->bQ (kvs++ [(k,y)]) j=if j=k then some y else bQ kvs j
 | [],_=>by
  by_cases e:k=j
  ·rw[aA e.symm];exact jC (p:=(k,y)) e
  ·rw[ax (λz=>e z.symm)];exact jb (p:=(k,y)) e
 |p::r,hn=>by
  rw[List.cons_append]
  have hk:¬p.1=k:=λz=>by rw[jC z]at hn;cases hn
  rw[jb hk]at hn
  have ih:=Vh k j y r hn
  by_cases e:p.1=j
  ·rw[jC e,jC e,ax (λz=>hk (e.trans z))]
  ·rw[jb e,jb e,ih]
theorem VD(kvs:aa (κ×V))(k j:κ)(y:V):bQ (putK kvs k y) j=if j=k then some y else bQ kvs j:=by
 unfold putK
 by_cases a:(kvs.any λkv=>decide (kv.1=k))=true
 ·rw[aA a,VE]
  rw[rR]at a
  by_cases e:j=k
  ·obtain⟨x,hx⟩:=Option.isSome_iff_exists.mp a
   rw[aA e,e,hx,Ca,aA rfl]
  ·rw[ax e]
   cases bQ kvs j with
   |none=>rfl
   |some x=>rw[Ca,ax e]
 ·rw[ax a]
  refine Vh k j y kvs ?_
  rw[rR]at a
  cases q:bQ kvs k with
  |none=>rfl
  |some x=>rw[q]at a;exact(a rfl).elim
theorem Mt(kvs:aa (κ×V))(k:κ)(v:V):(putK kvs k v).length<=kvs.length+1:=by
 unfold putK
 split
 ·rw[bH];omega
 ·rw[gF,d5,yH];omega
theorem Vy{kvs:aa (κ×V)}{k:κ}(v:V)(h:bQ kvs k=none):putK kvs k v=kvs++ [(k,v)]:=by
 unfold putK
 rw[rR,h]
 exact ax (by decide)
theorem gL.Fg{o:ae V}{u:ae af}(r:gL o u):o.isSome=u.isSome:=by
 cases o with
 |none=>cases u with
  |none=>rfl
  |some _=>exact(show False from r).elim
 |some _=>cases u with
  |none=>exact(show False from r).elim
  |some _=>rfl
theorem gL.getD{o:ae V}{u:ae af}{d:V}{d':af}(r:gL o u)(rd:RelV d d'):RelV (o.getD d) (u.getD d'):=by
 cases o with
 |none=>cases u with
  |none=>exact rd
  |some _=>exact(show False from r).elim
 |some _=>cases u with
  |none=>exact(show False from r).elim
  |some _=>exact r
theorem KV.val{kvs:aa (κ×V)}{vs:aa (κ×af)}(r:KV kvs vs)(k:κ):gL (bQ kvs k) (valueAt vs k):=by
 unfold KV at r
 induction r with
 |nil=>exact True.intro
 | @cons p q ps qs h t ih=>
  obtain⟨h1,h2⟩:=h
  by_cases e:p.1=k
  ·have e':q.1=k:=h1.symm.trans e
   have b:valueAt (q::qs) k=some q.2:=by simp[valueAt,uY,e']
   rw[jC e,b];exact h2
  ·have e':¬q.1=k:=λz=>e (h1.trans z)
   have b:valueAt (q::qs) k=valueAt qs k:=by simp[valueAt,uY,e']
   rw[jb e,b];exact ih
theorem KV.any{kvs:aa (κ×V)}{vs:aa (κ×af)}(r:KV kvs vs)(k:κ):(kvs.any λkv=>decide (kv.1=k))=vs.any λkv=>decide (kv.1=k):=by
 unfold KV at r
 induction r with
 |nil=>rfl
 |cons h t ih=>rw[sv,sv,ih,h.1]
theorem KV.Lv{kvs:aa (κ×V)}{vs:aa (κ×af)}(r:KV kvs vs)(k:κ){y:V}(ry:RelV y u):
  KV (kvs.map λkv=>if kv.1=k then(kv.1,y)else kv) (vs.map λkv=>if kv.1=k then(kv.1,u)else kv):=by
 unfold KV at r ⊢
 induction r with
 |nil=>exact .nil
 | @cons p q ps qs h t ih=>
  rw[dO,dO]
  refine .cons ?_ ih
  obtain⟨h1,h2⟩:=h
  by_cases e:p.1=k
  ·rw[aA e,aA (h1.symm.trans e)];exact⟨h1,ry⟩
  ·rw[ax e,ax (λz=>e (h1.trans z))];exact⟨h1,h2⟩
theorem KV.put{kvs:aa (κ×V)}{vs:aa (κ×af)}(r:KV kvs vs)(k:κ){y:V}(ry:RelV y u):KV (putK kvs k y) (stored vs k u):=by
 unfold putK stored
 rw[r.any k]
 by_cases e:(vs.any λkv=>decide (kv.1=k))=true
 ·rw[aA e,aA e];exact r.Lv k ry
 ·rw[ax e,ax e];exact Paired.snoc r ⟨rfl,ry⟩
theorem KV.drop{kvs:aa (κ×V)}{vs:aa (κ×af)}(r:KV kvs vs)(k:κ):KV (gS kvs k) (without vs k):=by
 unfold KV at r ⊢
 unfold gS without
 induction r with
 |nil=>exact .nil
 | @cons p q ps qs h t ih=>
  obtain⟨h1,h2⟩:=h
  rw[yC,yC]
  by_cases e:p.1=k
  ·have a:¬decide (p.1≠k)=true:=by simp[e]
   have b:¬decide (q.1≠k)=true:=by simp[h1.symm.trans e]
   rw[ax a,ax b];exact ih
  ·have e':¬q.1=k:=λz=>e (h1.trans z)
   have a:decide (p.1≠k)=true:=by simp[e]
   have b:decide (q.1≠k)=true:=by simp[e']
   rw[aA a,aA b];exact .cons ⟨h1,h2⟩ ih
theorem KV.length{kvs:aa (κ×V)}{vs:aa (κ×af)}(r:KV kvs vs):kvs.length=vs.length:=Paired.length r
theorem XY(kvs:aa (κ×V))(k:κ):(gS kvs k).length<=kvs.length:=sy _ _
end
theorem sf{k:Key}(r:RelV (kV k) u):(ee P w).is k u=true:=by
 cases k with
 |inl i=>obtain⟨t,e⟩:=(show ∃t,u=Value.int i t from r);subst e;exact zhz P w i t
 |inr x=>obtain⟨t,e⟩:=(show ∃t,u=Value.str x t from r);subst e;exact zhy P w x t
theorem U_:∀{ks:aa Key} {us:aa af},Vals (ks.map kV) us->ItemsAre (ee P w) ks us
 | [],_,r=>by rw[List.map_nil]at r;cases r;exact .nil
 |k::ks,_,r=>by
  rw[dO]at r
  cases r with
  |cons h t=>exact .cons (sf h) (U_ t)
noncomputable abbrev KT(H:Hp):aa (aa Key×V)->aa (aa Key×ah×af)->Prop:=Paired λp q=>p.1=q.1/\H q.2.1=some (.tup (p.1.map kV))/\RelV p.2 q.2.2
theorem KT.val{kvs:aa (aa Key×V)}{xs:aa (aa Key×ah×af)}(r:KT H kvs xs)(k:aa Key):gL (bQ kvs k) ((atKey xs k).map (·.2)):=by
 induction r with
 |nil=>exact True.intro
 | @cons p q ps qs h t ih=>
  obtain⟨h1,_,h2⟩:=h
  by_cases e:p.1=k
  ·have e':q.1=k:=h1.symm.trans e
   have b:atKey (q::qs) k=some q.2:=by simp[atKey,uY,e']
   rw[jC e,b];exact h2
  ·have e':¬q.1=k:=λz=>e (h1.trans z)
   have b:atKey (q::qs) k=atKey qs k:=by simp[atKey,uY,e']
   rw[jb e,b];exact ih
theorem KT.Lv{kvs:aa (aa Key×V)}{xs:aa (aa Key×ah×af)}(r:KT H kvs xs)(k:aa Key){y:V}(ry:RelV y u):
  KT H (kvs.map λkv=>if kv.1=k then(kv.1,y)else kv) (xs.map (putAt k u)):=by
 induction r with
 |nil=>exact .nil
 | @cons p q ps qs h t ih=>
  rw[dO,dO]
  refine .cons ?_ ih
  obtain⟨h1,h2,h3⟩:=h
  unfold putAt
  by_cases e:p.1=k
  ·rw[aA e,aA (h1.symm.trans e)];exact⟨h1,h2,ry⟩
  ·rw[ax e,ax (λz=>e (h1.trans z))];exact⟨h1,h2,h3⟩
theorem KT.put{kvs:aa (aa Key×V)}{xs:aa (aa Key×ah×af)}(r:KT H kvs xs)(k:aa Key){b:ah}{y:V}(hb:H b=some (.tup (k.map kV)))(ry:RelV y u):
  KT H (putK kvs k y) (storedH xs k b u):=by
 have e:(kvs.any λkv=>decide (kv.1=k))=(atKey xs k).isSome:=by
  rw[rR,(r.val k).Fg,Option.isSome_map]
 unfold putK storedH
 rw[e]
 by_cases q:(atKey xs k).isSome=true
 ·rw[aA q,aA q];exact r.Lv k ry
 ·rw[ax q,ax q];exact Paired.snoc r ⟨rfl,hb,ry⟩
theorem KT.keeps{kvs:aa (aa Key×V)}{xs:aa (aa Key×ah×af)}(r:KT H kvs xs)(ht:∀b ys,H b=some (.tup ys)->H' b=some (.tup ys)):KT H' kvs xs:=
 Paired.eJ r λ_ _ z=>⟨z.1,ht _ _ z.2.1,z.2.2⟩
section
theorem Td{u:HO}(ok:cG P w H h)(e:Rd H a u):c8 P w H h a u:=e.ok ok
theorem uP(ok:cG P w H h)(e:Rd H a (.dK kvs)):kvs.length<=sizeLine/\(a==sysModules)=false/\∃vs,KV kvs vs/\h.DictOf (ee P w) a vs:=
 show c8 P w H h a (.dK kvs)from Td ok e
theorem qd(ok:cG P w H h)(e:H a=some (.dK kvs)):kvs.length<=sizeLine/\(a==sysModules)=false/\∃vs,KV kvs vs/\h.DictOf (ee P w) a vs:=uP ok (.inl e)
theorem yt{ks:aa Key}(ok:cG P w H h)(e:H a=some (.tup (ks.map kV))):(tupleKind (ee P w)).is h ks a:=by
 obtain⟨_,its,r,o,h1,h2,n,h3⟩:=(show c8 P w H h a (.tup (ks.map kV))from ok a _ e)
 exact⟨o,its.toArray,n,h1,h2,h3,by simpa using U_ r⟩
theorem uO{kvs:aa (aa Key×V)}(ok:cG P w H h)(e:Rd H a (.dT kvs)):kvs.length<=sizeLine/\(a==sysModules)=false/\
  ∃xs,KT H kvs xs/\h.DictOfH (tupleKind (ee P w)) a xs:=by
 obtain⟨z,y,xs,r,o,es,ep,h1,h2,h3,h4,h5⟩:=(show c8 P w H h a (.dT kvs)from Td ok e)
 refine⟨z,y,xs,r,o,es,ep,h1,h2,h3,h4,λx hx=>?_,h5⟩
 have all:∀{l:aa (aa Key×V)} {m:aa (aa Key×ah×af)},KT H l m->∀x∈m,(tupleKind (ee P w)).is h x.1 x.2.1:=by
  intro l m q
  induction q with
  |nil=>intro x hx;exact nomatch hx
  | @cons p q ps qs hq t ih=>
   intro x hx
   rcases hZ.mp hx with e|hx
   ·subst e
    exact yt ok (by rw[<-hq.1];exact hq.2.1)
   ·exact ih x hx
 exact all r x hx
theorem XZ{kvs:aa (aa Key×V)}(ok:cG P w H h)(e:H a=some (.dT kvs)):kvs.length<=sizeLine/\(a==sysModules)=false/\
  ∃xs,KT H kvs xs/\h.DictOfH (tupleKind (ee P w)) a xs:=uO ok (.inl e)
end
noncomputable def fO(H:Hp)(a:ah)(y:V)(r:ae V):Prop:=
 (∃kvs k,Rd H a (.dK kvs)/\y=kV k/\r=bQ kvs k)\/∃kvs k b,Rd H a (.dT kvs)/\y= .ref b/\H b=some (.tup (k.map kV))/\r=bQ kvs k
noncomputable def eS(H:Hp)(a:ah)(y v:V)(H':Hp):Prop:=
 (∃kvs k,H a=some (.dK kvs)/\y=kV k/\kvs.length<sizeLine/\H'=upd H a (.dK (putK kvs k v)))\/
 ∃kvs k b,H a=some (.dT kvs)/\y= .ref b/\H b=some (.tup (k.map kV))/\kvs.length<sizeLine/\H'=upd H a (.dT (putK kvs k v))
theorem fO.k{k:Key}(e:H a=some (.dK kvs)):fO H a (kV k) (bQ kvs k):=.inl ⟨kvs,k,.inl e,rfl,rfl⟩
theorem eS.k{k:Key}(e:H a=some (.dK kvs))(hl:kvs.length<sizeLine):eS H a (kV k) v (upd H a (.dK (putK kvs k v))):=.inl ⟨kvs,k,e,rfl,hl,rfl⟩
section
variable {pins:aa (ah×Obj)} {y:V} {r:af} {o:ae V}
theorem Inv.big(I:Inv X pins σ H s):sysModules<s.heap.objs.size:=by
 have h:mainGlobals<s.heap.objs.size:=(I.mod.glob.keeps I.bk).lt
 exact sE (by decide) h
theorem zkU(hu:A.units+1<cLine)(I:Inv X pins σ H s)(g:fO H a y (some v))(ry:RelV y u)(h:∀w' s',Inv X pins σ H s'->RelV v w'->Q w' s'):
  wpAny (model X.prog X.w) A (getItem (.ref a) u) Q E s:=by
 rcases g with⟨kvs,k,e,ey,l⟩ | ⟨kvs,k,b,e,ey,eb,l⟩
 ·subst ey
  obtain⟨z,hd,vs,rel,dd⟩:=uP I.aI e
  obtain⟨w',hw,fB⟩:=gL.some_of (v:=v) (o:=valueAt vs k) (by rw[l];exact rel.val k)
  exact wpAny_getItem_of (sf ry) dd.mapOf hw (h w' _ (I.tok _) fB)
 ·subst ey
  cases(show u=Value.ref b from ry)
  obtain⟨z,hd,xs,rel,dd⟩:=uO I.aI e
  obtain⟨w',hw,fB⟩:=gL.some_of (v:=v) (o:=(atKey xs k).map (·.2)) (by rw[l];exact rel.val k)
  obtain⟨p,hp,eV⟩:=Option.map_eq_some_iff.mp hw
  refine wpAny_getItem_heap (Cg hu) (yt I.aI eb) dd hp ?_
  rw[eV]
  exact h w' _ (I.tok _) fB
theorem XS(hu:A.units+1<cLine)(I:Inv X pins σ H s)(g:fO H a y o)(ry:RelV y u)(h:∀s',Inv X pins σ H s'->Q (.bool (!o.isSome)) s'):
  wpAny (model X.prog X.w) A (compareOp .NotIn u (.ref a)) Q E s:=by
 rcases g with⟨kvs,k,e,ey,l⟩ | ⟨kvs,k,b,e,ey,eb,l⟩
 ·subst ey
  obtain⟨z,hd,vs,rel,dd⟩:=uP I.aI e
  refine wpAny_notIn_of (sf ry) hd dd.mapOf ?_
  rw[<- (rel.val k).Fg,<-l]
  exact h _ (I.tok _)
 ·subst ey
  cases(show u=Value.ref b from ry)
  obtain⟨z,hd,xs,rel,dd⟩:=uO I.aI e
  refine wpAny_notIn_heap (Cg hu) (yt I.aI eb) hd dd ?_
  have q:=(rel.val k).Fg
  rw[Option.isSome_map]at q
  rw[<-q,<-l]
  exact h _ (I.tok _)
theorem Bz{t':Nat}{ob:HO}(I:Inv X pins σ H s)(mu:vp (H a))(hs:Heap.SameBut a s.heap h')(he:∃q,h'.get? a=some q)(new:c8 X.prog X.w (upd H a ob) h' a ob):
  Inv X pins σ (upd H a ob) {s with heap:=h',toks:=t'}:=
 I.write (x:=a) (e:=a) mu (.inl rfl) (λb q hb z=>(hs.2 b hb).trans z) he new
theorem OH{H':Hp}{vs:aa (Key×af)}(z:kvs.length<=sizeLine)(hd:(a==sysModules)=false)(rel:KV kvs vs)(dd:h'.DictOf (ee P w) a vs):
  c8 P w H' h' a (.dK kvs):=⟨z,hd,vs,rel,dd⟩
theorem zkT{Q:Unit->ag->Prop}(hu:A.units+1<cLine)(I:Inv X pins σ H s)(g:eS H a y v H')(ry:RelV y u)(rv:RelV v r)(h:∀s',Inv X pins σ H' s'->Q () s'):
  wpAny (model X.prog X.w) A (setItem (.ref a) u r) Q E s:=by
 rcases g with⟨kvs,k,e,ey,l,eH⟩ | ⟨kvs,k,b,e,ey,eb,l,eH⟩
 ·subst ey eH
  obtain⟨z,hd,vs,rel,dd⟩:=qd I.aI e
  have hz:vs.length<=sizeLine:=by rw[<-rel.length];exact z
  have hl:(putK kvs k v).length<=sizeLine:=by have:=Mt kvs k v;omega
  refine wpAny_setItem_pairs (hsz:=hz) (sf ry) dd λh' gX hs=>h _ ?_
  have he:∃q,h'.get? a=some q:=let⟨q,_,_,hq,_⟩:=gX;⟨q,hq⟩
  exact Bz I (by rw[e];exact True.intro) hs he (OH hl hd (rel.put k rv) gX)
 ·subst ey eH
  cases(show u=Value.ref b from ry)
  obtain⟨z,hd,xs,rel,dd⟩:=XZ I.aI e
  have hz:xs.length<=sizeLine:=by rw[<-Paired.length rel];exact z
  have hl:(putK kvs k v).length<=sizeLine:=by have:=Mt kvs k v;omega
  refine wpAny_setItem_heap (hsz:=hz) (Cg hu) (yt I.aI eb) dd λh' gX hs=>h _ ?_
  obtain⟨q,es,ep,hq,h2,h3,h4,_,h5⟩:=gX
  refine Bz I (by rw[e];exact True.intro) hs ⟨q,hq⟩ ⟨hl,hd,_,(rel.put k eb rv).keeps λc ys ec=>?_,q,es,ep,hq,h2,h3,h4,h5⟩
  rw[aw (sk ec e (λz=>nomatch z))]
  exact ec
end
section
variable {pins:aa (ah×Obj)} {kvs:aa (Key×V)} {k:Key}
theorem XT{more:aa af}{Q:af->ag->Prop}(I:Inv X pins σ H s)(e:H a=some (.dK kvs))(ry:RelV (kV k) u)(l:bQ kvs k=some v)(hm:more= []\/∃x,more= [x])
  (h:∀w' s',Inv X pins σ (upd H a (.dK (gS kvs k))) s'->RelV v w'->Q w' s'):wpAny (model X.prog X.w) A (call (.builtin "dict.pop") (.ref a::u::more)) Q E s:=by
 obtain⟨z,hd,vs,rel,dd⟩:=qd I.aI e
 obtain⟨w',hw,fB⟩:=gL.some_of (v:=v) (o:=valueAt vs k) (by rw[<-l];exact rel.val k)
 have hp:(keyPart u).isSome=true:=by
  cases k with
  |inl i=>obtain⟨t,q⟩:=(show ∃t,u=Value.int i t from ry);subst q;rfl
  |inr x=>obtain⟨t,q⟩:=(show ∃t,u=Value.str x t from ry);subst q;rfl
 have ha:argsOk "dict.pop" ⟨.ref a::u::more,[]⟩:=by
  rcases hm with q| ⟨x,q⟩
  ·subst q;exact PySem.F.args_dict_pop_2 _ _
  ·subst q;exact PySem.F.args_dict_pop_3 _ _ _
 refine yN PySem.F.slot_dict_pop dd.typeIs PySem.F.entry_dict_pop ha (meets_dict_pop_there (ee X.prog X.w) a (sf ry) more hm hp)
  ⟨vs,w',dd,by rw[<-rel.length];exact z,hw,λh' gX hs=>h w' _ ?_ fB⟩
 have he:∃q,h'.get? a=some q:=let⟨q,_,_,hq,_⟩:=gX;⟨q,hq⟩
 exact Bz I (by rw[e];exact True.intro) hs he (OH (eA (XY kvs k) z) hd (rel.drop k) gX)
end
noncomputable def O0(i:Expr):Prop:=∀ov iv,subscripted i false ov iv=operate [ov,iv] (getItem ov iv)
theorem agq{prog:Program}{w:World}{A:Around}{E:af->ag->Prop}{s:ag}{env:Env}{value slice:Expr}{pos:Pos}{T id:String}{Q:af->ag->Prop}
  (hl:typeLookup (.type T) "__getitem__"=pure (some (.builtin id))) (hs:O0 slice)
  (h:wpAny (model prog w) A (eval value env) (λo s₁=>wpAny (model prog w) A (eval slice env) (λi s₂=>s₂.TypeIs o T/\wpAny (model prog w) A (getItem o i) Q E s₂) E s₁) E s):
  wpAny (model prog w) A (eval (.Subscript value slice pos) env) Q E s:=by
 refine Subscript_ (gU h (λo s₁ h₁=>gU h₁ (λi s₂ h₂=>?_) λ_ _ x=>x) λ_ _ x=>x)
 obtain⟨hT,h₂⟩:=h₂
 unfold subscriptTail
 refine aC ?_
 rw[getitemInPython_of_ne hT.not_modules]
 refine aC (wpAny_specialOf hT hl ?_)
 have fin:wpAny (model prog w) A (subscripted slice false o i) (λr s₃=>wpAny (model prog w) A (letTemporaryGo value o r >>= λ_=>pure r) Q E s₃) E s₂:=by
  rw[hs o i]
  exact wpAny_operating (gU h₂ (λr s₃ h₃=>aC (wpAny_letTemporaryGo (aR h₃))) λ_ _ x=>x)
 first
  |exact aR (aC fin)
  |exact aC (aR (aC fin))
  |exact aC fin
theorem zhJ{y:V}{o:ae V}(I:Inv X pins σ H s)(g:fO H a y o):s.TypeIs (.ref a) "dict":=by
 rcases g with⟨kvs,k,e,_,_⟩ | ⟨kvs,k,b,e,_,_,_⟩
 ·obtain⟨_,_,vs,_,dd⟩:=uP I.aI e
  exact dd.typeIs
 ·obtain⟨_,_,xs,_,dd⟩:=uO I.aI e
  exact dd.typeIs
noncomputable def ej(td ty:TE):TE:=λσ H Q=>td σ H λx H1=>ty σ H1 λy H2=>∃a v,x= .ref a/\fO H2 a y (some v)/\Q v H2
noncomputable def agC(ty td:TE):TE:=λσ H Q=>ty σ H λy H1=>td σ H1 λx H2=>∃a o,x= .ref a/\fO H2 a y o/\Q (.bl (!o.isSome)) H2
noncomputable def aex(td ty tv:TE):TS:=λD σ H=>tv σ H λv H1=>td σ H1 λx H2=>ty σ H2 λy H3=>∃a H4,x= .ref a/\eS H3 a y v H4/\D.nx σ H4
section
variable {o i e:Expr} {T_:Pos} {ty:TE}
theorem uJ(hu:X.A.units+1<cLine)(ho:PE X o td)(hi:PE X i ty)(hs:O0 i):PE X (.Subscript o i pos) (ej td ty):=by
 refine .mk ?_;intro pins s σ H Q I h
 refine agq PySem.F.slot_dict_getitem.lookup hs (aO (ho pins s σ H _ I h) λu s1 ⟨x,H1,I1,rx,q1⟩=>aO (hi pins s1 σ H1 _ I1 q1) λiv s2 ⟨y,H2,I2,ry,a,v,ex,g,q2⟩=>?_)
 subst ex
 obtain rfl:u=Value.ref a:=rx
 exact⟨zhJ I2 g,zkU hu I2 g ry λw' s3 I3 fB=>⟨v,H2,I3,fB,q2⟩⟩
theorem zjR(hu:X.A.units+1<cLine)(hi:PE X i ty)(ho:PE X o td):PC X .NotIn i o (agC ty td):=by
 intro pins s σ H Q I h
 refine aO (hi pins s σ H _ I h) λiv s1 ⟨y,H1,I1,ry,q1⟩=>aO (ho pins s1 σ H1 _ I1 q1) λu s2 ⟨x,H2,I2,rx,a,ov,ex,g,q2⟩=>?_
 subst ex
 obtain rfl:u=Value.ref a:=rx
 exact XS hu I2 g ry λs3 I3=>⟨.bl (!ov.isSome),H2,I3,rfl,q2⟩
theorem gQ(hu:X.A.units+1<cLine)(ho:PE X o td)(hi:PE X i ty)(hv:PE X value tv)(hs:swapsWith value (some (.Subscript o i pos')) pos.line X.env=pure false):
  PS X (.Assign [.Subscript o i pos'] value pos) (aex td ty tv):=by
 refine .mk ?_;intro pins s σ H D I h
 refine wpAny_Assign_Subscript (aO (hv pins s σ H _ I h) λr s1 ⟨v,H1,I1,rv,q1⟩=>aO (ho pins s1 σ H1 _ I1 q1) λu s2 ⟨x,H2,I2,rx,q2⟩=>aO (hi pins s2 σ H2 _ I2 q2) λiv s3 ⟨y,H3,I3,ry,a,H4,ex,g,q3⟩=>?_) hs
 subst ex
 obtain rfl:u=Value.ref a:=rx
 exact zkT hu I3 g ry rv λs4 I4=>⟨σ,H4,I4,q3⟩
end
theorem V4(h:aj)(hb:sysModules<h.objs.size):c8 P w H (h.push {cls:=.type "dict",data:=.dict #[]}) h.objs.size (.dK []):=
 ⟨dD _,beq_eq_false_iff_ne.mpr (gH (cU hb)),[],.nil,Heap.DictOf.new h⟩
noncomputable def agB:TE:=λ_ H Q=>∀p,H p=none->Q (.ref p) (upd H p (.dK []))
section
theorem VQ:PE X (.Dict [] [] pos) agB:=.mk λpins s σ H Q I h=>
 wpAny_Dict_empty ⟨.ref s.heap.objs.size,_,I.laid (a:=s.heap.objs.size) (o:=.dK []) (t':=s.toks) (λ_ _ q=>cL _ q) (bu _) (V4 s.heap I.big),rfl,h _ (I.aI.fresh (bu _))⟩
end
noncomputable def Ox:aa (TE×TE)->St->Hp->(aa (V×V)->Hp->Prop)->Prop
 | [],_,H,Q=>Q [] H
 | (tk,tv)::r,σ,H,Q=>tk σ H λx H1=>tv σ H1 λy H2=>Ox r σ H2 λps H3=>Q ((x,y)::ps) H3
noncomputable abbrev VV:aa (V×V)->aa (af×af)->Prop:=Paired λp q=>RelV p.1 q.1/\RelV p.2 q.2
noncomputable def yT(X:Cx)(pos:Pos)(keys:aa (ae Expr))(values:aa Expr)(om:aa (TE×TE)):Prop:=
 ∀(pins:aa (ah×Obj)) (s:ag) (σ:St) (H:Hp) (Q:aa (V×V)->Hp->Prop),Inv X pins σ H s->Ox om σ H Q->
  wpAny (model X.prog X.w) X.A (evalPairs (pairTrees keys values X.env pos)) (λvs s'=>∃ps H',Inv X pins σ H' s'/\VV ps vs/\Q ps H') X.xe s
theorem BJ:yT X pos [] [] []:=λpins s σ H Q I h=>pairTrees_nil_walk ⟨[],H,I,.nil,h⟩
theorem iQ{k v:Expr}{ks:aa (ae Expr)}{vs:aa Expr}{tk:TE}{om:aa (TE×TE)}(hk:PE X k tk)(hv:PE X v tv)(hr:yT X pos ks vs om):
  yT X pos (some k::ks) (v::vs) ((tk,tv)::om):=λpins s σ H Q I h=>
 pairTrees_cons_walk (aO (hk pins s σ H _ I h) λu s1 ⟨x,H1,I1,rx,q1⟩=>aO (hv pins s1 σ H1 _ I1 q1) λw2 s2 ⟨y,H2,I2,ry,q2⟩=>
  aO (hr pins s2 σ H2 _ I2 q2) λws s3 ⟨ps,H3,I3,rel,q3⟩=>⟨(x,y)::ps,H3,I3,.cons ⟨rx,ry⟩ rel,q3⟩)
noncomputable def qb(kvs more:aa (Key×V)):aa (Key×V):=more.foldl (λacc kv=>putK acc kv.1 kv.2) kvs
theorem KV.merge:∀{more:aa (Key×V)} {rs:aa (Key×af)} {kvs:aa (Key×V)} {vs:aa (Key×af)},KV more rs->KV kvs vs->KV (qb kvs more) (merged vs rs):=by
 intro more rs kvs vs r
 unfold KV at r
 induction r generalizing kvs vs with
 |nil=>intro q;exact q
 | @cons p q ps qs h t ih=>
  intro r0
  have e:KV (putK kvs p.1 p.2) (stored vs q.1 q.2):=by
   have:=r0.put p.1 h.2
   rw[<-h.1];exact this
  exact ih e
theorem Ux:∀(more kvs:aa (Key×V)),(qb kvs more).length<=kvs.length+more.length
 | [],kvs=>by show kvs.length<=kvs.length+0;omega
 |p::r,kvs=>by
  have h1:=Ux r (putK kvs p.1 p.2)
  have h2:=Mt kvs p.1 p.2
  show(qb (putK kvs p.1 p.2) r).length<=_
  rw[d5];omega
theorem UB{P:Program}{w:World}:∀{kvs:aa (Key×V)} {ws:aa (af×af)},VV (kvs.map λkv=>(kV kv.1,kv.2)) ws->∃rs,Carries (ee P w) ws rs/\KV kvs rs
 | [],_,r=>by rw[List.map_nil]at r;cases r;exact⟨[],True.intro,.nil⟩
 |p::kvs,_,r=>by
  rw[dO]at r
  cases r with
  | @cons a b as bs h t=>
   obtain⟨rs,c,q⟩:=UB (P:=P) (w:=w) t
   obtain⟨b1,b2⟩:=b
   exact⟨(p.1,b2)::rs,⟨sf h.1,rfl,c⟩,.cons ⟨rfl,h.2⟩ q⟩
noncomputable def agE(om:aa (TE×TE)):TE:=λσ H Q=>∀p,H p=none->Ox om σ (upd H p (.dK [])) λps H2=>H2 p=some (.dK [])/\∃kvs:aa (Key×V),ps=kvs.map (λkv=>(kV kv.1,kv.2))/\kvs.length<=15/\Q (.ref p) (upd H2 p (.dK (qb [] kvs)))
theorem BB{keys:aa (ae Expr)}{values:aa Expr}{om:aa (TE×TE)}(h:yT X pos keys values om)(vZ:keys.all (·.isSome)=true)(hl:keys.length=values.length)(h0:keys≠[])
  (YR:keys.length<=15):PE X (.Dict keys values pos) (agE om):=by
 refine .mk ?_;intro pins s σ H Q I q
 have hn:=I.aI.fresh (bu s.heap.objs.size)
 have I1:=I.laid (a:=s.heap.objs.size) (o:=.dK []) (h':=s.heap.push {cls:=.type "dict",data:=.dict #[]}) (t':=s.toks) (λ_ _ q=>cL _ q) (bu _) (V4 s.heap I.big)
 refine wpAny_Dict_walk (knd:=ee X.prog X.w) vZ hl h0 YR (aO (h pins _ σ _ _ I1 (q _ hn)) λws s2 ⟨ps,H2,I2,rel,e,kvs,ep,lk,q2⟩=>?_)
 subst ep
 obtain⟨rs,c,rk⟩:=UB (P:=X.prog) (w:=X.w) rel
 obtain⟨z,hd,vs0,r0,dd⟩:=qd I2.aI e
 cases r0
 refine⟨rs,c,dd,λh' gX hs=>⟨.ref s.heap.objs.size,_,?_,rfl,q2⟩⟩
 have hz:(qb [] kvs).length<=sizeLine:=by
  have h1:=Ux kvs []
  rw[yH]at h1
  rw[a7];omega
 have he:∃q,h'.get? s.heap.objs.size=some q:=let⟨q,_,_,hq,_⟩:=gX;⟨q,hq⟩
 exact Bz I2 (by rw[e];exact True.intro) hs he (OH hz hd (rk.merge .nil) gX)
structure M1(X:Cx)(o:Expr)(m:Str)(apos:Pos)(e:Expr)(d_:Pos):Prop where
 base:attributeBase o m X.env (eval o X.env)=eval o X.env
 DA:((backTo d_ (starEach [e] X.env)).all (λx=>!x.1)&&(backToKw d_ (keywordEach [] X.env)).all (λx=>x.1.isSome)
  &&decide (([e]:List Expr).length+([]:List Keyword).length+(if([]:List Keyword).isEmpty then 0 else 1)<30))=true
 line:(apos.endLine==d_.line)=true
 trees:backTo d_ (starEach [e] X.env)= [(false,eval e X.env)]
structure M2(X:Cx)(o:Expr)(m:Str)(apos:Pos)(e f:Expr)(d_:Pos):Prop where
 base:attributeBase o m X.env (eval o X.env)=eval o X.env
 DA:((backTo d_ (starEach [e,f] X.env)).all (λx=>!x.1)&&(backToKw d_ (keywordEach [] X.env)).all (λx=>x.1.isSome)
  &&decide (([e,f]:List Expr).length+([]:List Keyword).length+(if([]:List Keyword).isEmpty then 0 else 1)<30))=true
 line:(apos.endLine==d_.line)=true
 trees:backTo d_ (starEach [e,f] X.env)= [(false,eval e X.env),(false,eval f X.env)]
noncomputable def Cu(H:Hp)(a:ah):Prop:=(∃kvs,Rd H a (.dK kvs))\/∃kvs,Rd H a (.dT kvs)
theorem RI(I:Inv X pins σ H s)(d:Cu H a):
  s.TypeIs (.ref a) "dict"/\(∀b,Value.ref a= .ref b->∃ob,s.heap.get? b=some ob/\ob.dict=none)/\(a==sysModules)=false:=by
 rcases d with⟨kvs,e⟩ | ⟨kvs,e⟩
 ·obtain⟨_,hd,vs,_,dd⟩:=uP I.aI e
  refine⟨dd.typeIs,λb q=>?_,hd⟩
  cases q
  obtain⟨ob,_,_,h1,h2,_⟩:=dd
  exact⟨ob,h1,h2.2.1⟩
 ·obtain⟨_,hd,xs,_,dd⟩:=uO I.aI e
  refine⟨dd.typeIs,λb q=>?_,hd⟩
  cases q
  obtain⟨ob,_,_,h1,h2,_⟩:=dd
  exact⟨ob,h1,h2.2.1⟩
section
variable {pins:aa (ah×Obj)} {y d:V} {r:af} {o:ae V}
theorem XR(hu:A.units+1<cLine)(I:Inv X pins σ H s)(g:fO H a y o)(ry:RelV y u)(rd:RelV d r)(h:∀w' s',Inv X pins σ H s'->RelV (o.getD d) w'->Q w' s'):
  wpAny (model X.prog X.w) A (call (.builtin "dict.get") [.ref a,u,r]) Q E s:=by
 rcases g with⟨kvs,k,e,ey,l⟩ | ⟨kvs,k,b,e,ey,eb,l⟩
 ·subst ey
  obtain⟨z,hd,vs,rel,dd⟩:=uP I.aI e
  refine yN OQ dd.typeIs PySem.F.entry_dict_get (PySem.F.args_dict_get_3 _ _ _) (meets_dict_get_default (ee X.prog X.w) a (sf ry) hd r) ⟨_,dd.mapOf,h _ _ (I.tok _) ?_⟩
  rw[l]
  exact(rel.val k).getD rd
 ·subst ey
  cases(show u=Value.ref b from ry)
  obtain⟨z,hd,xs,rel,dd⟩:=uO I.aI e
  refine yN OQ dd.typeIs PySem.F.entry_dict_get (PySem.F.args_dict_get_3 _ _ _) (meetsH_dict_get_default (tupleKind (ee X.prog X.w)) a b hd r) ⟨Cg hu,k,xs,yt I.aI eb,dd,h _ _ (I.tok _) ?_⟩
  rw[l]
  exact(rel.val k).getD rd
end
noncomputable def agA(td ty tx:TE):TE:=λσ H Q=>td σ H λx H1=>∃a,x= .ref a/\Cu H1 a/\ty σ H1 λy H2=>tx σ H2 λz H3=>∃o,fO H3 a y o/\Q (o.getD z) H3
noncomputable def agD(td ty:TE):TE:=λσ H Q=>td σ H λx H1=>∃a,x= .ref a/\Cu H1 a/\ty σ H1 λy H2=>∃kvs k v,H2 a=some (.dK kvs)/\y=kV k/\bQ kvs k=some v/\Q v (upd H2 a (.dK (gS kvs k)))
section
variable {o e f:Expr} {ty tx:TE}
theorem Br(hu:X.A.units+1<cLine)(ho:PE X o td)(he:PE X e ty)(hf:PE X f tx)(m:M2 X o "get" apos e f d_):PE X (.Call (.Attribute o "get" apos) [e,f] [] d_) (agA td ty tx):=by
 refine .mk ?_;intro pins s σ H Q I h
 refine wpAny_Call_method m.base m.DA m.line Ce OQ PySem.F.type_dict_get (aO (ho pins s σ H _ I h) λu s1 ⟨x,H1,I1,rx,a,ex,d,q1⟩=>?_)
 subst ex
 obtain rfl:u=Value.ref a:=rx
 obtain⟨t1,t2,_⟩:=RI I1 d
 refine⟨t1,t2,?_⟩
 rw[m.trees]
 refine Cb rfl (Cc (Cd (aO (he pins s1 σ H1 _ I1 q1) λiv s2 ⟨y,H2,I2,ry,q2⟩=>
  Cd (aO (hf pins s2 σ H2 _ I2 q2) λfv s3 ⟨z,H3,I3,rz,ov,g,q3⟩=>Calls.spliced_nil ?_))))
 exact XR hu I3 g ry rz λw' s4 I4 fB=>⟨_,H3,I4,fB,q3⟩
theorem adT(ho:PE X o td)(he:PE X e ty)(m:M1 X o "pop" apos e d_):PE X (.Call (.Attribute o "pop" apos) [e] [] d_) (agD td ty):=by
 refine .mk ?_;intro pins s σ H Q I h
 refine wpAny_Call_method m.base m.DA m.line Ce PySem.F.slot_dict_pop PySem.F.type_dict_pop (aO (ho pins s σ H _ I h) λu s1 ⟨x,H1,I1,rx,a,ex,d,q1⟩=>?_)
 subst ex
 obtain rfl:u=Value.ref a:=rx
 obtain⟨t1,t2,_⟩:=RI I1 d
 refine⟨t1,t2,?_⟩
 rw[m.trees]
 refine Cb rfl (Cc (Cd (aO (he pins s1 σ H1 _ I1 q1) λiv s2 ⟨y,H2,I2,ry,kvs,k,v,ea,ey,l,q2⟩=>Calls.spliced_nil ?_)))
 subst ey
 exact XT I2 ea ry l (.inl rfl) λw' s3 I3 fB=>⟨v,_,I3,fB,q2⟩
end
section
variable {pins:aa (ah×Obj)} {kvs:aa (Key×V)}
end
section
variable {pins:aa (ah×Obj)} {y:V}
end
end L2
namespace OV
open PySem PySem.W PySem.Calls PyProof.Rows
theorem zeu{P:Params}:∀(ns:aa Int) (vs:aa af),WellAll P h vs (ns.map WData.int)->IntsAre vs ns:=by
 intro ns
 induction ns with
 |nil=>
  intro vs w
  rw[List.map_nil]at w
  cases w
  exact .nil
 |cons n ns ih=>
  intro vs w
  rw[dO]at w
  cases w with
  |cons a b=>
   cases a
   exact .cons _ _ (ih _ b)
theorem zju{l:OpenLaw}(hn:l.most=some n){P:Params}{h:aj}{args:aa WData}{vals:aa af}
  (zV:l.row.toRowW.claim.pre args=true) (wU:WellAll P h vals args):
  ∃a vs ns,vals= [Value.ref a]/\args= [WData.list (ns.map WData.int)]/\h.get? a=some {cls:=.type "list",data:=.seq vs.toArray}/\IntsAre vs ns/\ns.length<=n:=by
 have lr:WShape.hasAll [] args [.list .int]=true:=(pre_splitW zV).1
 have hc:l.pre.holds [] {args:=args}=true:=(pre_splitW zV).2
 obtain⟨d,r,rfl,h1,h2⟩:=hasAllW_cons lr
 obtain rfl:=hasAllW_nil h2
 obtain⟨xs,rfl,h3⟩:=hasW_list h1
 obtain⟨ns,rfl⟩:=items_int h3
 have hlen:ns.length<=n:=by
  unfold OpenLaw.pre at hc
  have h4:(WTm.not (.lt (.lit (.int (n:Int))) (.len (.arg 0)))).holds [] {args:=[.list (ns.map .int)]}=true:=by
   have h4:=(holds_andW hc).1
   rw[hn]at h4
   exact h4
  have h5:=condW_of h4 (w_not (w_lt w_lit (w_len_list (w_arg rfl))))
  rw[bH]at h5
  refine Nat.le_of_not_lt λq=>?_
  have q':(n:Int)< ((ns.length:Nat):Int):=by omega
  first
   | (rw[bO q']at h5;exact absurd h5 (by decide))
   | (simp at h5;omega)
 cases wU with
 |cons w1 w2=>
  cases w2
  cases w1 with
  |list ho vZ=>exact⟨_,_,ns,rfl,rfl,ho,zeu ns _ vZ,hlen⟩
theorem zjK(l:OpenLaw)(args:aa WData):l.row.toRowW.claim.post args (.bool true) args=true:=
 postW_of (r:=l.row.toRowW) (X:=(true==true))
  (show WShape.has [] (.bool true) .bool=true by first|rfl|decide|simp[WShape.has,WShape.arms,WShape.armsAll])
  (show(WTm.eq .res (.lit (.bool true))).value [] {args:=args,res:=some (.bool true),after:=args}=some (.bool (true==true))from w_eq_bool (w_res rfl) w_lit) rfl
theorem Xt{l:OpenLaw}{n:Nat}{q:Program}{loose:aa Str}{XP:(Str->ae af)->aj->Prop}{YP:World->aj->Prop}{d:DefRec}
  (hn:l.most=some n) (wj:d.params.defaults= [])
  (call:∀(w:World) (s₀ s₁:ag) (mg mb:Str->ae af) (fa:ah) (o:Obj) (pm cd doc:af) (a:ah) (vs:aa af) (ns:aa Int),
   Ground q loose [] XP w s₀ mg mb s₁.heap->YP w s₁.heap->
   s₁.heap.get? fa=some o->o.data= .func (docDef d.name d.params d.body d.scope pm cd doc)->s₁.heap.CodeRec cd d.name->mg d.name=some (.ref fa)->
   s₁.heap.get? a=some {cls:=.type "list",data:=.seq vs.toArray}->IntsAre vs ns->ns.length<=n->s₁.gens= #[]->
   codeAny (model l.prog w) callerA (.call (.ref fa) ⟨[.ref a],[]⟩) (λr s'=>r= .ok (.ret (.bool true))/\OldK s₁.heap s'.heap/\s'.os=s₁.os/\AllBare s'.gens) s₁):
  WalkO q loose XP YP l.row.toRowW d [] (λf vs=>PySem.call f vs):=by
 intro w s₀ s₁ mg mb G Y fa o pm cd doc dV kV ho hd ku hD wC hg args vals as zV aj7 hrd wU QP
 obtain rfl:dV= .none:=Dflts.none hD wj
 obtain rfl:kV= .none:=Dflts.noKw hD
 obtain⟨a,vs,ns,rfl,rfl,EH,hints,hlen⟩:=zju hn zV wU
 refine enter_call (va (call w s₀ s₁ mg mb fa o pm cd doc a vs ns G Y ho (fd_plain hd) ku wC EH hints hlen hg) λr s' hq=>?_)
 obtain⟨rfl,h2,h3,h4⟩:=hq
 exact⟨.inl ⟨.bool true,.bool true,[],rfl,λ_=>rfl,.bool true,zjK l _,λ_=>⟨List.Pairwise.nil,λ_ hm=>(nomatch hm)⟩⟩,h2,h3,h4⟩
section
variable {K:Frag}
end
end OV
namespace L2
open PySem PySem.Spec PyProof.Rows
theorem Vg:∀{vs:aa af} {ns:aa Int},IntsAre vs ns->Vals (ns.map V.int) vs
 |_,_,.nil=>.nil
 |_,_,.cons n t h=>.cons ⟨t,rfl⟩ (Vg h)
noncomputable def Cw(H:Hp):Prop:=∀b,H b=none\/∃o xs,H b=some (.iZ o (.lst xs))
theorem ack{P:Program}{w:World}{K:W.Frag}{mg mb:Str->ae af}{CX:jI}{k:Nat}{fa a:ah}{fd:FuncData}{x:Str}{sp:Sp}{s₁:ag}{vs:aa af}{ns:aa Int}
  (KX:K.In s₁.heap) (zP:s₁.heap.Ns mainGlobals mg) (hb:s₁.heap.Ns builtinsNs mb) (gO:∀x:Str,x≠"__name__"->mb x=bootBuiltins x) (ZR:s₁.heap.NoLimit) (hg:s₁.gens= #[])
  (ha:s₁.heap.get? a=some {cls:=.type "list",data:=.seq vs.toArray}) (hi:IntsAre vs ns) (hl:ns.length<=sizeLine) (hr:bB k callerA)
  (F:∀base:aj,K.In base->base.Ns mainGlobals mg->cJ P w K mg base CX k fa fd [x] sp) (Y8:∀(s:ag) (u:af),BindsTo s fd ⟨[u],[]⟩ [(x,u)])
  (iM:∀H:Hp,Cw H->aK K H a (ns.map V.int)->sp [.ref a] H (λv _=>v= .bl true) λ_ _ _=>False)
  (DT:∀H e s',CX [] H s₁ (λ_ _ _=>False) e s'->False):
  codeAny (model P w) callerA (.call (.ref fa) ⟨[.ref a],[]⟩) (λr s'=>r= .ok (.ret (.bool true))/\OldK s₁.heap s'.heap/\s'.os=s₁.os/\AllBare s'.gens) s₁:=by
 have rv:=Vg hi
 have acn:=hi.length
 have core:∀H:Hp,Cw H->aK K H a (ns.map V.int)->cG P w H s₁.heap->(∀b,H b≠none->b=a)->(H a≠none->K.lookup a=none)->
   codeAny (model P w) callerA (.call (.ref fa) ⟨[.ref a],[]⟩) (λr s'=>r= .ok (.ret (.bool true))/\OldK s₁.heap s'.heap/\s'.os=s₁.os/\AllBare s'.gens) s₁:=by
  intro H hO hS aI hA hK
  have Pd:∀{b:ah} {o:Obj},s₁.heap.get? b=some o->H b=none->(nR s₁.heap H).get? b=some o:=λe n=>ZH e n
  have xl:∀{b:ah} {o:Obj} {es:Array DictEntry} {ep:Nat},s₁.heap.get? b=some o->o.data= .dict es ep->H b=none:=λ{b o es ep} e d=>by
   cases q:H b with
   |none=>rfl
   |some u=>
    have e':b=a:=hA b (by rw[q];simp)
    subst e'
    rw[ha]at e;cases e
    have d':Data.seq vs.toArray _=Data.dict es ep:=d
    cases d'
  have Ap:∀{b:ah} {m:Str->ae af},s₁.heap.Ns b m->(nR s₁.heap H).Ns b m:=λ{b m} ⟨o,es,ep,e,d,r⟩=>⟨o,es,ep,Pd e (xl e d),d,r⟩
  have Qm:K.In (nR s₁.heap H):=λb o e=>Pd (KX b o e) (by
   cases q:H b with
   |none=>rfl
   |some u=>
    have e':b=a:=hA b (by rw[q];simp)
    subst e'
    rw[hK (by rw[q];simp)]at e;cases e)
  have hM:Mod K mg (nR s₁.heap H):=⟨Qm,Ap zP,⟨mb,Ap hb,gO⟩,let⟨mc,h1,h2⟩:=ZR;⟨mc,Ap h1,h2⟩⟩
  have e0:qj P w K mg (nR s₁.heap H) callerA [] s₁ H:=⟨rfl,hM,λb o e=>adt e,u6 (zkB _ _),trivial,λb hb=>absurd (show b∈([]:aa ah)from hb) (by simp),aI,.of_eq hg⟩
  refine va ((F _ Qm (Ap zP)).run callerA [] s₁ H ⟨[.ref a],[]⟩ [.ref a] [.ref a] _ _ hr e0 (Y8 s₁ (.ref a)) (.cons rfl .nil) (iM H hO hS)) λr s' h=>?_
  cases r with
  |error e=>exact(DT H e s' h).elim
  |ok fl=>
   cases fl with
   |next=>exact False.elim h
   |brk=>exact False.elim h
   |cont=>exact False.elim h
   |ret u=>
    obtain⟨v,H',os,bare,un,qN,r',q⟩:=h
    have q':v= .bl true:=q
    subst q'
    obtain rfl:u=Value.bool true:=r'
    refine⟨rfl,OldK.of_keep λb o e=>?_,os,bare⟩
    cases q:H b with
    |none=>exact un.keep b o e q (by intro z;exact absurd (show b∈([]:aa ah)from z) (by simp)) (by simp)
    |some u=>
     rcases hO b with z| ⟨ob,xs,z⟩
     ·rw[q]at z;cases z
     ·have z2:=un.iH b ob _ z
      obtain⟨e1,_⟩:=aI b _ z
      obtain⟨e2,_⟩:=qN b _ z2
      rw[e]at e1;cases e1
      exact e2
 cases hk:K.lookup a with
 |some o=>
  have e:=KX a o hk
  rw[ha]at e
  cases e
  refine core (λ_=>none) (λ_=>.inl rfl) (.inr ⟨_,vs.toArray,_,hk,rfl,rfl,rfl,by rw[eP,acn];exact hl,by simpa using rv⟩) (λb u z=>by have z':(none:ae HO)=some u:=z;cases z') (λb z=>absurd rfl z) λz=>absurd rfl z
 |none=>
  refine core (λb=>if b=a then some (.iZ {cls:=.type "list",data:=.seq vs.toArray} (.lst (ns.map V.int)))else none) (λb=>?_) (.inl (.inr ⟨{cls:=.type "list",data:=.seq vs.toArray},aA rfl⟩)) (λb u z=>?_) (λb z=>?_) λ_=>hk
  ·by_cases hb:b=a
   ·exact .inr ⟨_,_,aA hb⟩
   ·exact .inl (ax hb)
  ·by_cases hb:b=a
   ·have z':=(aA hb).symm.trans z
    cases z'
    subst hb
    exact⟨ha,by rw[bH];exact hl,vs,_,rv,ha⟩
   ·have z':=(ax hb).symm.trans z
    cases z'
  ·by_cases hb:b=a
   ·exact hb
   ·exact absurd (ax hb) z
theorem ahl{l:W.OpenLaw}{n k:Nat}{q:Program}{loose:aa Str}{XP:(Str->ae af)->aj->Prop}{YP:World->aj->Prop}{d:DefRec}{K:Params->W.Frag}{CX:World->jI}{sp:World->Sp}{x:Str}
  (hn:l.most=some n) (qJ:n<=sizeLine) (wj:d.params.defaults= []) (hr:bB k callerA)
  (hY:∀(w:World) (h:aj),YP w h->(K w.params).In h)
  (F:∀(w:World) (mg:Str->ae af) (fa:ah) (h:aj),(K w.params).In h->h.Ns mainGlobals mg->mg d.name=some (.ref fa)->
   ∃fd:FuncData,(∀(s:ag) (u:af),BindsTo s fd ⟨[u],[]⟩ [(x,u)])/\
    ∀base:aj,(K w.params).In base->base.Ns mainGlobals mg->cJ l.prog w (K w.params) mg base (CX w) k fa fd [x] (sp w))
  (iM:∀(w:World) (H:Hp) (a:ah) (ns:aa Int),ns.length<=n->Cw H->aK (K w.params) H a (ns.map V.int)->sp w [.ref a] H (λv _=>v= .bl true) λ_ _ _=>False)
  (DT:∀(w:World) (H:Hp) (s:ag) (e:af) (s':ag),CX w [] H s (λ_ _ _=>False) e s'->False):
  W.WalkO q loose XP YP l.row.toRowW d [] (λf vs=>PySem.call f vs):=by
 refine OV.Xt hn wj λw s₀ s₁ mg mb fa o pm cd doc a vs ns G Y ho hd ku wC EH hints hlen hg=>?_
 have KX:=hY w _ Y
 obtain⟨fd,hb,hF⟩:=F w mg fa _ KX G.T.g wC
 exact ack KX G.T.g G.T.b G.T.builtins G.T.nolimit hg EH hints (eA hlen qJ) hr hF hb (λH hO hS=>iM w H a ns hlen hO hS) λH e s'=>DT w H s₁ e s'
noncomputable def fJ(s:Stmt)(j:Nat):Stmt:=match s with
 | .ClassDef _ _ _ body _ _ _ _ _ _ _=>body.getD j (.Pass ⟨0,0,0,0⟩)
 |_=>.Pass ⟨0,0,0,0⟩
noncomputable def uK(s:Stmt):Arguments:=match s with
 | .FunctionDef _ a _ _ _ _ _ _ _ _=>a
 |_=>{posonlyargs:=[],args:=[],vararg:=none,kwonlyargs:=[],kw_defaults:=[],kwarg:=none,defaults:=[]}
noncomputable def m7(s:Stmt):aa Stmt:=match s with
 | .FunctionDef _ _ b _ _ _ _ _ _ _=>b
 |_=>[]
noncomputable def aX(s:Stmt):Scope:=match s with
 | .FunctionDef _ _ _ _ _ _ sc _ _ _=>sc
 |_=>{kind:=.function,names:=[],isGenerator:=false,isCoroutine:=false}
noncomputable abbrev E0:XK:=λ_ _ _=>False
structure dq(K:W.Frag)(x qual:Str)(st:Stmt)(f:Addr)(fd:FuncData):Prop where
 ex:∃(oc:Value) (od:Option Addr) (kV doc pm:Value) (an:Option Addr) (cF ct:Value) (lH:Array (Option Value)),
  fd=W.fnOf x qual (uK st) (m7 st) (aX st) .none kV doc pm an cF ct/\K.lookup f=some ⟨oc,od,.func fd,lH⟩/\W.codeIn K cF qual=true
 kp:W.keepIn K (.ref f)=true
section
theorem dq.binds{ps:aa Str}(F:dq K x qual st f fd)
  (h:∀(kV doc pm:af) (an:ae ah) (cF ct:af) (us:aa af),us.length=ps.length->bindArgs (W.fnOf x qual (uK st) (m7 st) (aX st) .none kV doc pm an cF ct) ⟨us,[]⟩=pure (ps.zip us)):gA K fd ps []:=by
 obtain⟨oc,od,kV,doc,pm,an,cF,ct,lH,rfl,lk,ku⟩:=F.ex
 exact .all (h kV doc pm an cF ct)
theorem PR{lH:Array (ae af)}{kV:af}(l:K.lookup f=some ⟨oc,od,.func (W.fnOf x qual (uK st) (m7 st) (aX st) .none kV doc pm an cF ct),lH⟩)
  (c:W.codeIn K cF qual=true) (k:W.keepIn K (.ref f)=true):dq K x qual st f (W.fnOf x qual (uK st) (m7 st) (aX st) .none kV doc pm an cF ct):=⟨⟨oc,od,kV,doc,pm,an,cF,ct,lH,rfl,l,c⟩,k⟩
end
theorem fc{k:Nat}(hr:bB k A):A.units+1<cLine:=Nat.lt_of_le_of_lt (Nat.add_le_add_left (by decide:1<=64) _) hr.units
section
theorem pv(i:Nat){pos:Pos}(hN:X.N[i]?=some x:=by rfl)(hv:yV X.env.scope x:=by first|exact Or.inl rfl|exact Or.inr (Or.inl rfl) |exact Or.inr (Or.inr rfl))(hd:(x==("__debug__":Str))=false:=by decide)
  (ku:(x==("__classdict__":Str))=false:=by decide):PE X (.Name x pos) (aW i):=S6 hN hv hd ku
end
theorem bF{A B:Prop}(h:B):if false=true then A else B:=by
 rw[ax cb]
 exact h
theorem bL{A B:Prop}(h:A):if true=true then A else B:=by
 rw[aA rfl]
 exact h
theorem kC{c A B:Prop} [Decidable c](h1:c->A)(h2:¬c->B):if c then A else B:=by
 by_cases h:c
 ·rw[aA h]
  exact h1 h
 ·rw[ax h]
  exact h2 h
theorem Fh{c A B:Prop} [Decidable c](hc:c)(h:B):if(!decide c)=true then A else B:=by
 rw[bO hc]
 exact bF h
noncomputable def aL(H H':Hp):Prop:=∀b o,H b=some o->H' b=some o
theorem aL.refl(H:Hp):aL H H:=λ_ _ h=>h
theorem aL.trans(a:aL H H1)(b:aL H1 H2):aL H H2:=λc o h=>b c o (a c o h)
theorem aL.free(e:aL H H'){l:ah}(h:H' l=Option.none):H l=Option.none:=by
 cases q:H l with
 |none=>rfl
 |some o=>
  rw[e l o q]at h
  cases h
section
variable {κ:Type} [DecidableEq κ]
theorem ahf{kvs:aa (κ×V)}{k:κ}(h:bQ kvs k=none):¬k∈kvs.map (·.1):=by
 intro m
 obtain⟨p,hp,e⟩:=u4.mp m
 have q:(kvs.any λkv=>decide (kv.1=k))=true:=List.any_eq_true.mpr ⟨p,hp,bO e⟩
 rw[rR,h]at q
 exact absurd q (by simp)
theorem ahe{kvs:aa (κ×V)}{k:κ}(h:bQ kvs k=some v):k∈kvs.map (·.1):=by
 have q:(kvs.any λkv=>decide (kv.1=k))=true:=by
  rw[rR,h]
  all_goals rfl
 obtain⟨p,hp,e⟩:=List.any_eq_true.mp q
 exact u4.mpr ⟨p,hp,eB e⟩
theorem yq:∀{l:aa κ} {k:κ},l.Nodup->¬k∈l->(l++ [k]).Nodup
 | [],k,_,_=>by simp
 |a::r,k,h,hk=>by
  obtain⟨h1,h2⟩:=List.nodup_cons.mp h
  show(a::(r++ [k])).Nodup
  refine List.nodup_cons.mpr ⟨λm=>?_,yq h2 λm=>hk (hZ.mpr (Or.inr m))⟩
  rcases List.mem_append.mp m with q|q
  ·exact h1 q
  ·exact hk (hZ.mpr (Or.inl (List.mem_singleton.mp q).symm))
theorem ac3{kvs:aa (κ×V)}{k:κ}(v:V)(hn:(kvs.map (·.1)).Nodup)(h:bQ kvs k=none):((putK kvs k v).map (·.1)).Nodup:=by
 rw[Vy v h,jh]
 exact yq hn (ahf h)
theorem M_{p:κ×V}{r:aa (κ×V)}{k:κ}(e:p.1=k):gS (p::r) k=gS r k:=by
 unfold gS
 rw[yC,ax (by simp[e])]
theorem Bv{p:κ×V}{r:aa (κ×V)}{k:κ}(e:¬p.1=k):gS (p::r) k=p::gS r k:=by
 unfold gS
 rw[yC,aA (by simp[e])]
theorem V3:∀{kvs:aa (κ×V)} {k:κ},¬k∈kvs.map (·.1)->gS kvs k=kvs
 | [],_,_=>rfl
 |p::r,k,h=>by
  have h':¬k∈r.map (·.1):=λm=>by
   obtain⟨q,hq,e⟩:=u4.mp m
   exact h (u4.mpr ⟨q,hZ.mpr (Or.inr hq),e⟩)
  rw[Bv λe=>h (u4.mpr ⟨p,hZ.mpr (Or.inl rfl),e⟩),V3 h']
theorem zkN{kvs:aa (κ×V)}{k:κ}{p:κ×V}(h:p∈gS kvs k):p∈kvs:=(List.mem_filter.mp h).1
theorem Nj:∀{kvs:aa (κ×V)} {k:κ},(kvs.map (·.1)).Nodup->((gS kvs k).map (·.1)).Nodup
 | [],_,_=>sC
 |p::r,k,h=>by
  have h:(p.1::r.map (·.1)).Nodup:=h
  obtain⟨h1,h2⟩:=List.nodup_cons.mp h
  by_cases e:p.1=k
  ·rw[M_ e]
   exact Nj h2
  ·rw[Bv e]
   show(p.1::(gS r k).map (·.1)).Nodup
   refine List.nodup_cons.mpr ⟨λm=>h1 ?_,Nj h2⟩
   obtain⟨q,hq,eq⟩:=u4.mp m
   exact u4.mpr ⟨q,zkN hq,eq⟩
theorem Vd:∀{kvs:aa (κ×V)} {k:κ},(kvs.map (·.1)).Nodup->k∈kvs.map (·.1)->(gS kvs k).length+1=kvs.length
 | [],_,_,m=>by simp at m
 |p::r,k,h,m=>by
  have h:(p.1::r.map (·.1)).Nodup:=h
  have m:k=p.1\/k∈r.map (·.1):=hZ.mp m
  obtain⟨h1,h2⟩:=List.nodup_cons.mp h
  by_cases e:p.1=k
  ·subst e
   rw[M_ rfl,V3 h1]
   all_goals rfl
  ·have m':k∈r.map (·.1):=m.resolve_left λz=>e z.symm
   have q:=Vd h2 m'
   rw[Bv e,d5,d5]
   omega
end
end L2
set_option maxHeartbeats 4000000
namespace L2
open PySem
theorem rX{α:Type}{A P:α->Prop}{w:α}(h:A w)(q:P w):∃v,A v/\P v:=⟨w,h,q⟩
theorem r2{x y:V}{P:Int->Int->Prop}{i j:Int}(hx:x= .int i)(hy:y= .int j)(q:P i j):∃i j,x= .int i/\y= .int j/\P i j:=⟨i,j,hx,hy,q⟩
theorem rM{m:Str}{P:Prop}{x:V}(a dx:ah){fs:aa (Str×V)}(hx:x= .ref a)(h:H a=some (.ins C dx fs))(hl:fs.lookup m=none)(q:P):∃a dx fs,x= .ref a/\H a=some (.ins C dx fs)/\fs.lookup m=none/\P:=⟨a,dx,fs,hx,h,hl,q⟩
theorem rT{x y:V}{P:V->Prop}(t:ah){xs:aa V}(i:Int)(hx:x= .ref t)(hy:y= .int i)(h:aM K H t xs)(ha:kT xs i=some v)(q:P v):∃p xs i v,x= .ref p/\y= .int i/\aM K H p xs/\kT xs i=some v/\P v:=⟨t,xs,i,v,hx,hy,h,ha,q⟩
theorem rA{x:V}{n:Str}{P:V->Prop}(a C dx:ah){fs:aa (Str×V)}(hx:x= .ref a)(h:H a=some (.ins C dx fs))(cl:fE K C)(na:cz K C n)(hv:fs.lookup n=some v)(q:P v):
  ∃a C dx fs v,x= .ref a/\H a=some (.ins C dx fs)/\fE K C/\cz K C n/\fs.lookup n=some v/\P v:=⟨a,C,dx,fs,v,hx,h,cl,na,hv,q⟩
open PySem PySem.Spec PyProof.Rows
section
variable {o:HO}
theorem c8.at(x:c8 P w H h a o):∃ob,h.get? a=some ob:=by
 induction o with
 |lst xs=>obtain⟨_,its,n,_,e⟩:=x;exact⟨_,e⟩
 |tup xs=>obtain⟨_,its,_,ob,e,_⟩:=x;exact⟨ob,e⟩
 |dK kvs=>obtain⟨_,_,vs,_,ob,es,ep,e,_⟩:=x;exact⟨ob,e⟩
 |dT kvs=>obtain⟨_,_,xs,_,ob,es,ep,e,_⟩:=x;exact⟨ob,e⟩
 |set S n=>obtain⟨ob,es,ep,t,e,_⟩:=x;exact⟨ob,e⟩
 |ins C dx fs=>obtain⟨_,_,_,e,_⟩:=x;exact⟨_,e⟩
 |own y=>exact x
 |xd fs=>obtain⟨mA,⟨od,es,ep,e,_⟩,_⟩:=x;exact⟨od,e⟩
 |AF lo hi=>obtain⟨t,u,v,e⟩:=x;exact⟨_,e⟩
 |iZ ob u ih=>exact⟨_,x.1⟩
 |pP ps=>exact⟨_,x⟩
 |met f y=>exact⟨_,x⟩
 |ext φ=>exact x.2.1
theorem cG.AZ(ok:cG P w H h)(hn:H a=none)(new:c8 P w (upd H a o) h a o):cG P w (upd H a o) h:=λb u q=>by
 by_cases hb:b=a
 ·subst hb
  rw[aB]at q
  cases q
  exact new
 ·rw[aw hb]at q
  refine(ok b u q).lK (λ_ _ _ r=>r) (λc r=>?_) λc xs r=>?_
  ·rw[aw (a6 r hn)]
   exact r
  ·rw[aw (a6 r hn)]
   exact r
end
noncomputable def cI(P:Program)(w:World):jI:=λouter H s E e s'=>
 ∃(x C:ah) (a0:af) (B:aj) (H':Hp),e= .ref x/\s'.os=s.os/\AllBare s'.gens/\Un (eG outer) [] H H' s.heap s'.heap/\cG P w H' s'.heap/\Heap.FlyingW B outer x (.ref C) a0 s'.heap/\
  (∀b o,s'.heap.get? b=some o->b∉eG outer->((∃o',s.heap.get? b=some o')\/∃q,H' b=some q)->B.get? b=some o)/\E (.ref C) (some x) H'
theorem BX{P:Program}{w:World}{fs:aa ah}{H':Hp}{g g1 g2 B:aj}(fr:∀b∈fs,H1 b=none/\∃o,g.get? b=some o/\∀vs,o.data≠.fields vs)
  (un:Un fs [] H1 H' g g1) (aI:cG P w H' g1) (hB:∀b o,g1.get? b=some o->b∉fs->((∃o',g.get? b=some o')\/∃q,H' b=some q)->B.get? b=some o)
  (st:B.StaysIn g2) (up:g1.UpToSlots g2):Un fs [] H1 H' g g2/\cG P w H' g2:=by
 have nx:∀b:ah,b∉([]:aa ah):=λb z=>absurd z (by simp)
 have key:∀b o,g1.get? b=some o->b∉fs->((∃o',g.get? b=some o')\/∃q,H' b=some q)->g2.get? b=some o:=λb o e n t=>st b o (hB b o e n t)
 have sl:∀b o,g.get? b=some o->H1 b=none->b∈fs->∃sl,g2.get? b=some {o with slots:=sl}:=λb o e n hb=>by
  obtain⟨s1,e1⟩:=un.slot b o e n hb (nx b)
  obtain⟨_,o2,e2,d⟩:=fr b hb
  rw[e]at e2
  cases e2
  obtain⟨s2,e3⟩:=up b _ e1 (λvs=>d vs)
  exact⟨s2,e3⟩
 have SH:∀b q,H' b=some q->b∉fs:=λb q e hb=>by
  obtain⟨n,o,e1,_⟩:=fr b hb
  rw[un.free b o e1 n (nx b)]at e
  cases e
 refine⟨⟨λb o e n hb _=>key b o (un.keep b o e n hb (nx b)) hb (.inl ⟨o,e⟩),λb o e n hb _=>sl b o e n hb,λb o e n _=>un.free b o e n (nx b),λb o e _=>?_,un.i_,un.iH,un.jX⟩,λa o e=>(aI a o e).lK (λc v hc q=>?_) (λ_ q=>q) λ_ _ q=>q⟩
 ·by_cases hb:b∈fs
  ·obtain⟨z,e2⟩:=sl b o e (fr b hb).1 hb
   exact⟨_,e2⟩
  ·obtain⟨o1,e1⟩:=un.there b o e (nx b)
   exact⟨o1,key b o1 e1 hb (.inl ⟨o,e⟩)⟩
 ·rcases hc with rfl|hc
  ·exact key c v q (SH c o e) (.inr ⟨o,e⟩)
  ·exact key c v q (SH c _ hc) (.inr ⟨_,hc⟩)
theorem Inv.qx(I:Inv X pins σ H s):∀b∈eG X.stack,H b=none/\∃o,s.heap.get? b=some o/\∀vs,o.data≠.fields vs:=
 λb hb=>⟨I.L0 b hb,(I.stack.mem hb).2⟩
theorem Wv{s1:ag}{g1 h' B:aj}(I:Inv X pins σ H1 s1)(hex:X.ex= [])(un:Un (eG X.stack) [] H1 H' s1.heap g1)(aI:cG X.prog X.w H' g1)
  (hB:∀b o,g1.get? b=some o->b∉eG X.stack->((∃o',s1.heap.get? b=some o')\/∃q,H' b=some q)->B.get? b=some o) (st:B.StaysIn h'):
  ∀b o,h'.get? b=some o->b∉X.fs->((∃o',X.s₀.heap.get? b=some o')\/∃q,H' b=some q)->B.get? b=some o:=by
 intro b o e hb t
 have nx:∀b:ah,b∉([]:aa ah):=λb z=>absurd z (by simp)
 have main:∀o1,g1.get? b=some o1->b∉eG X.stack->((∃o',s1.heap.get? b=some o')\/∃q,H' b=some q)->B.get? b=some o:=λo1 e1 n t1=>by
  have e2:=hB b o1 e1 n t1
  have e3:=st b o1 e2
  rw[e]at e3
  cases e3
  exact e2
 rcases t with⟨o',e0⟩ | ⟨q,e0⟩
 ·have xn:b∉eG X.stack:=λz=>by
   rcases hZ.mp (I.AV b z)with r|r
   ·have:=cc e0
    rw[r]at this
    exact absurd this (Nat.not_lt.mpr I.ok.above)
   ·exact hb r
  obtain⟨o1',qt⟩:=I.base.there b o' e0 (by rw[hex];exact nx b)
  obtain⟨o2,e2⟩:=un.there b o1' qt (nx b)
  exact main o2 e2 xn (.inl ⟨_,qt⟩)
 ·have xn:b∉eG X.stack:=λz=>by
   obtain⟨n,o1,e1,_⟩:=I.qx b z
   rw[un.free b o1 e1 n (nx b)]at e0
   cases e0
  obtain⟨o1,e1⟩:=(aI b q e0).at
  exact main o1 e1 xn (.inr ⟨q,e0⟩)
noncomputable def Throws(X:Cx)(E:XK):Prop:=∀(pins:aa (ah×Obj)) (σ:St) (H:Hp) (s:ag) (h':aj) (e C:ah) (vs:aa af),Inv X pins σ H s->Heap.MadeExcOf s.heap h' e (.ref C) vs->
 E (.ref C) (some e) H->X.xe (.ref e) {s with heap:=h'}
section
variable {cd:af} {E E':XK}
theorem oO(hE:∀C x H',E C x H'->E' C x H'):j6 (cI P w) (jo (cI P w) P w K mg base N qual scope f cd A outer s H E') E:=by
 intro pins σ H1 s1 e s' I h
 obtain⟨x,C,a0,B,H',rfl,os,bare,un,aI,fl,hB,q⟩:=h
 show wpAny _ _ (leaving _ _) _ _ s'
 refine wpAny_leaves_onW (L:=s.heap.objs.size) I.ok.frames rfl fl λh' qw up=>?_
 obtain⟨Ml,qN⟩:=BX I.qx un aI hB qw.1 up
 have J:=I.vw (s':={s' with heap:=h'}) (ch:=[]) os Ml qN bare (λb z=>absurd z (by simp))
 exact⟨x,C,a0,B,H',rfl,J.os,J.bare,J.base,qN,qw,Wv I rfl un aI hB qw.1,hE _ _ _ q⟩
theorem lT(hE:∀C x H',E C x H'->E' C x H'):Throws (jo (cI P w) P w K mg base N qual scope f cd A outer s H E') E:=by
 intro pins σ H1 s1 h1 e C vs I hx q
 show wpAny _ _ (leaving _ _) _ _ _
 have hB:∀b o,h1.get? b=some o->b∉eG (jo (cI P w) P w K mg base N qual scope f cd A outer s H E').stack->((∃o',s1.heap.get? b=some o')\/∃q,H1 b=some q)->
   (W.hideAll s1.heap (eG (jo (cI P w) P w K mg base N qual scope f cd A outer s H E').stack)).get? b=some o:=λb o e n t=>by
  obtain⟨o',e'⟩:∃o',s1.heap.get? b=some o':=t.elim id λ⟨q,e0⟩=>(I.aI b q e0).at
  rw[hx.keeps b o' e']at e
  cases e
  exact W.hideAll_get _ e' n
 refine wpAny_leaves_madeW (base:=W.hideAll s1.heap (eG (jo (cI P w) P w K mg base N qual scope f cd A outer s H E').stack)) (h:=s1.heap) (L:=s.heap.objs.size) I.ok.frames rfl
  (λb o e=>W.of_hideAll _ e) (W.funFrames_hide I.stack λenv he b hb=>List.mem_filterMap.mpr ⟨env,he,hb⟩) hx λh' t qw tp nt up=>?_
 obtain⟨Ml,qN⟩:=BX (g1:=h1) I.qx (Un.kept hx.keeps) (I.aI.kept hx.keeps) hB qw.1 up
 have J:=I.vw (s':={s1 with heap:=h'}) (ch:=[]) rfl Ml qN I.bare (λb z=>absurd z (by simp))
 exact⟨e,C,.ref t,_,H1,rfl,J.os,J.bare,J.base,qN,qw,Wv I rfl (Un.kept hx.keeps) (I.aI.kept hx.keeps) hB qw.1,hE _ _ _ q⟩
end
theorem cO:j6 (cI P w) X E0:=λ_ _ _ _ _ _ _ h=>by
 obtain⟨_,_,_,_,_,_,_,_,_,_,_,_,q⟩:=h
 exact q.elim
section
theorem dq.rh{k:Nat}(F:dq K x qual st f fd)(S:bc N ps (aX st))(len:∀vs H Q E,sp vs H Q E->vs.length=ps.length)
  (v5:∀(cF:af) (A:Around) (outer:aa Env) (s:ag) (H:Hp) (vs:aa V) (Q:VK) (E:XK),bB k (A.deeper (envOfC qual (aX st) s.heap.objs.size f cF))->sp vs H Q E->
   ∃t,gJ (jo (cI P w) P w K mg base N qual (aX st) f cF A outer s H E) (m7 st) t/\t {nx:=λ_ H'=>Q .aE H',rt:=Q} (lV N vs) H):cJ P w K mg base (cI P w) (k+1) f fd ps sp:=by
 obtain⟨oc,od,kV,doc,pm,an,cF,ct,lH,rfl,lk,ku⟩:=F.ex
 exact YB lk ku S len λA outer s H vs Q E hr iM=>v5 cF A outer s H vs Q E hr iM
theorem dq.okN{k:Nat}(F:dq K x qual st f fd)(S:bc N ps (aX st))(len:∀vs H Q E,sp vs H Q E->vs.length=ps.length)
  (v5:∀(cF:af) (A:Around) (outer:aa Env) (s:ag) (H:Hp) (vs:aa V) (Q:VK) (E:XK),bB k (A.deeper (envOfC qual (aX st) s.heap.objs.size f cF))->sp vs H Q E->
   ∃t,gJ (jo (cI P w) P w K mg base N qual (aX st) f cF A outer s H E).t7 (m7 st) t/\t {nx:=λ_ H'=>Q .aE H',rt:=Q} (lV N vs) H):cJ P w K mg base (cI P w) (k+1) f fd ps sp:=
 F.rh S len λcF A outer s H vs Q E hr iM=>let⟨t,h,q⟩:=v5 cF A outer s H vs Q E hr iM;⟨t,h.t7,q⟩
end
theorem dq.bT{k:Nat}(F:dq K x qual st f fd)(S:bc N ps (aX st))(hb:∀(cF:af) (A:Around) (outer:aa Env) (s:ag) (H:Hp) (vs:aa V) (Q:VK) (E:XK),bB k (A.deeper (envOfC qual (aX st) s.heap.objs.size f cF))->sp vs H Q E->∃t,gJ (jo (cI P w) P w K mg base N qual (aX st) f cF A outer s H E).t7 (m7 st) t/\t {nx:=λ_ H'=>Q .aE H',rt:=Q} (lV N vs) H)(len:∀vs H Q E,sp vs H Q E->vs.length=ps.length:=by intro _ _ _ _ h;cases h;subst_vars;rfl):cJ P w K mg base (cI P w) (k+1) f fd ps sp:=F.okN S len hb
theorem dq.ri{k:Nat}(F:dq K x qual st f fd)(S:bc N ps (aX st))(hb:∀(cF:af) (A:Around) (outer:aa Env) (s:ag) (H:Hp) (vs:aa V) (Q:VK) (E:XK),bB k (A.deeper (envOfC qual (aX st) s.heap.objs.size f cF))->sp vs H Q E->∃t,gJ (jo (cI P w) P w K mg base N qual (aX st) f cF A outer s H E) (m7 st) t/\t {nx:=λ_ H'=>Q .aE H',rt:=Q} (lV N vs) H)(len:∀vs H Q E,sp vs H Q E->vs.length=ps.length:=by intro _ _ _ _ h;cases h;subst_vars;rfl):cJ P w K mg base (cI P w) (k+1) f fd ps sp:=F.rh S len hb
noncomputable abbrev Xk:aa af:=[.type "ValueError",.type "Exception",.type "BaseException",.type "object"]
noncomputable abbrev iD(K:W.Frag)(C:ah):Prop:=W.excIn K C Xk "ValueError.__new__"=true
theorem A4{Pf:aa af}{newId:String}(q:W.excIn K C Pf newId=true):
  ∃bm N nm qn bs hdct sn sub ab col dd k0 k1 k2 k3 k5,K.lookup C=some (excClassObj nm qn C N bs bm hdct sn sub ab col dd k0 k1 k2 k3 k5 newId)/\W.tailIn K Pf bm=true/\W.nsOkIn K N=true/\W.nsIn K N "__init__"=some none:=by
 unfold W.excIn at q
 split at q
 ·rename_i dd cd sl ho
  split at q
  ·rename_i C1 bm k0 k1 k2 k3 n1 k5 hm hs
   have q1:=q
   simp only[beq_iff_eq,Bool.not_eq_true',BZ]at q1
   obtain⟨⟨⟨⟨⟨e1,e2⟩,e3⟩,e4⟩,e5⟩,e6⟩:=q1
   subst e1
   subst e2
   obtain⟨nm,bs,mro,ns,qn,hd,sn,sub,ab,col,del⟩:=cd
   dsimp only at hm e3 e5 e6
   subst hm
   subst e3
   have hsl:sl= #[k0,k1,k2,k3,some (.builtin n1),k5]:=by
    obtain⟨l⟩:=sl
    have i6:l= [k0,k1,k2,k3,some (.builtin n1),k5]:=hs
    rw[i6]
   subst hsl
   exact⟨bm,ns,nm,qn,bs,hd,sn,sub,ab,col,dd,k0,k1,k2,k3,k5,ho,e4,e5,e6⟩
  ·cases q
 ·cases q
section
theorem zkK{e D:ah}{oe:Obj}{Q:ai->ag->Prop}(X:K.In s.heap)(he:s.heap.get? e=some oe)(v_:oe.cls= .ref C)(hC:iD K C)(hD:iD K D)(hm:W.mroIn K C (.ref D)=some true)(hq:Q true s):
  wpAny M A (excMatches (.ref e) (.ref D)) Q E s:=by
 obtain⟨bm,N,nm,qn,bs,hdct,sn,sub,ab,col,dd,k0,k1,k2,k3,k5,lC,tC,_,_⟩:=A4 hC
 obtain⟨XB,N',nm',qn',bs',ajY,sn',akH,ab',ajL,gX,j0,j1,j2,j3,j5,lD,tD,_,_⟩:=A4 hD
 have gC:=X _ _ lC
 have gD:=X _ _ lD
 have cB:(Value.ref D::XB).contains (.type "BaseException")=true:=by
  rw[List.contains_cons,(W.tail_of_in X tD).hasType (X:="BaseException") (b:=true) rfl]
  rfl
 have cC:(Value.ref C::bm).contains (.ref D)=true:=by
  unfold W.mroIn W.clsIn at hm
  rw[lC]at hm
  exact cq hm
 have f:=tc_notTuple
 obtain⟨h,g,d,t,os⟩:=s
 unfold excMatches
 repeat(first| (with_reducible refine sL he ?_;rw[v_]) |with_reducible refine sL gD ?_| (with_reducible refine wpAny_isSubtype_exc gD ?_;rw[cB]) | (with_reducible refine wpAny_isSubtype_exc gC ?_;rw[cC]) |wp_step)
 exact hq
end
noncomputable def agQ(C:ah)(E:XK)(t:TA):TS:=λ_ σ H=>t σ H λvs H1=>vs.length<=sizeLine/\∀e,E (.ref C) e H1
section
variable {np:Pos} {e0:Expr} {E:XK}
theorem lR(hh:X.calm=true)(hg:Gl X x)(hm:X.mg x=some (.ref C))(hq:iD X.K C)(ht:Throws X E)(ha:PA X (e0::rest) t)(fq:(x==("__debug__":Str))=false:=by decide)
  (he:starEach (e0::rest) X.env=(false,eval e0 X.env)::starEach rest X.env:=by rfl) (eX:(backTo d_ (starEach rest X.env)).any (·.1)=false:=by rfl):
  PS X (.Raise (some (.Call (.Name x np) (e0::rest) [] d_)) none pos) (agQ C E t):=by
 refine .mk ?_;intro pins s σ H D I h
 obtain⟨bm,N,nm,qn,bs,hdct,sn,sub,ab,col,dd,k0,k1,k2,k3,k5,lC,tC,aI,Z2⟩:=A4 hq
 have kb:=I.mod.qY
 have hN:X.base.Ns N (X.base.nsMap N):=.of_isNs (W.isNs_of_in kb aI)
 have T:=W.tail_of_in kb tC
 refine wpAny_Raise_call_subT (C:=C) (nm:=nm) (q:=qn) (N:=N) (bs:=bs) (bm:=bm) (hdct:=hdct) (sn:=sn) (sub:=sub) (ab:=ab) (col:=col) (dd:=dd) (k0:=k0) (k1:=k1) (k2:=k2) (k3:=k3) (k5:=k5)
  PySem.F.excBase_ValueError (mN:=X.base.nsMap N) (T.hasType rfl) (I.ok.hd hh) (by rw[he];show(false||(backTo d_ (starEach rest X.env)).any (·.1))=false;rw[eX];rfl)
  (W.nsMap_none_of_in kb aI Z2) (rN I hg hm ⟨rfl,?_⟩ fq)
 have h2:=ha d_ pins s σ H _ I h
 rw[he]at h2 ⊢
 refine Cc (gU h2 (λus s2 ⟨vs,H1,I1,r,z,q⟩=>?_) λ_ _ y=>y)
 exact⟨rfl,by rw[<-r.length];exact z,I1.bk _ _ (kb _ _ lC),hN.keeps I1.bk,T.keeps I1.bk,λh' e hx=>ht pins σ H1 s2 h' e C us I1 hx (q _)⟩
end
noncomputable abbrev jO(x C:ah):HO:=.ext λh=>∃o vs,h.get? x=some o/\o.cls= .ref C/\o.data= .fields vs
theorem Yt{x:ah}{vs:Array af}(e:h.get? x=some o)(c:o.cls= .ref C)(d:o.data= .fields vs):c8 P w H h x (jO x C):=
 ⟨⟨o,vs,e,c,d⟩,⟨o,e⟩,λ_ _ ⟨o,vs,e,c,d⟩ k=>⟨o,vs,k o e,c,d⟩⟩
section
variable {pins:aa (ah×Obj)}
theorem YK{M:Model}{A:Around}{E:af->ag->Prop}{n:Str}{pos:Pos}{Q:Unit->ag->Prop}(I:Inv X pins σ H s)(hN:X.N.Nodup)(hj:X.N[j]?=some n)(hk:X.env.scope.names.lookup n=some .local)
  (h:∀s',Inv X pins (σ.set j none) H s'->Q () s'):wpAny M A (do bindName X.env n .none;unbindBehindTheSuite X.env n pos) Q E s:=by
 obtain⟨m,hn,hl⟩:=id I.loc
 have v_:(X.env.scope.kind== .class||(X.env.scope.kind== .module&&X.env.locals !=X.env.globals))=false:=by rw[I.ok.kind];rfl
 refine wpAny_nameGoes_keeps hk hn v_ λh' v qI hs=>?_
 have old:∀b o,X.s₀.heap.get? b=some o->b≠X.env.locals:=λb o e=>cU (eQ (cc e) I.ok.above)
 refine h _ ⟨I.ok,I.os,I.bare,⟨λb o e n hb hx=>(hs.2 b (old b o e)).trans (I.base.keep b o e n hb hx),λb o e n hb hx=>?_,I.base.free,λb o e hx=>?_,I.base.i_,I.base.iH,I.base.jX⟩,⟨_,qI,λi y v' e1 e2 e3=>?_⟩,λy c e=>?_,I.free,I.gh,λp hp=>?_,λb ob e=>?_,by simpa using I.len⟩
 ·obtain⟨sl,e1⟩:=I.base.slot b o e n hb hx
  exact⟨sl,(hs.2 b (old b o e)).trans e1⟩
 ·obtain⟨o',e1⟩:=I.base.there b o e hx
  exact⟨o',(hs.2 b (old b o e)).trans e1⟩
 ·by_cases dH:i=j
  ·subst dH
   have zB:i<σ.length:=by rw[I.len];exact(List.getElem?_eq_some_iff.mp hj).1
   rw[u0 zB]at e2
   cases e2
  ·rw[yG (gH dH)]at e2
   obtain⟨u',r',q⟩:=hl i y v' e1 e2 e3
   refine⟨u',r',?_⟩
   rcases q with⟨k,e⟩ | ⟨k,c,e,z⟩
   ·have ne:y≠n:=λe=>dH (Ni hN e1 (e▸hj))
    exact .inl ⟨k,by simp[ne,e]⟩
   ·exact .inr ⟨k,c,e,z.sameBut hs (I.nF y c e)⟩
 ·obtain⟨w',z⟩:=I.cell y c e
  exact⟨w',z.sameBut hs (I.nF y c e)⟩
 ·obtain⟨e,n,ne,nf,d⟩:=I.pin p hp
  exact⟨(hs.2 p.1 ne).trans e,n,ne,nf,d⟩
 ·refine(I.aI b ob e).lK (λc w' hc q=>(hs.2 c ?_).trans q) (λ_ q=>q) λ_ _ q=>q
  rintro rfl
  rcases hc with z|hc
  ·rw[<-z,I.free]at e
   cases e
  ·rw[I.free]at hc
   cases hc
noncomputable abbrev Cx.mark(X:Cx)(v:af):Cx:={X with A:=X.A.mark (some v),calm:=false}
theorem Inv.mark(I:Inv X pins σ H s)(v:af):Inv (X.mark v) pins σ H s:=
 ⟨⟨I.ok.mod,I.ok.kind,I.ok.glob,I.ok.blt,I.ok.above,I.ok.inj,I.ok.has,I.ok.ma,λz=>absurd (show false=true from z) cb,I.ok.frames,I.ok.rB,I.ok.vG,I.ok.bs,I.ok.kU,I.ok.pJ,I.ok.qv,I.ok.i0,I.ok.mi⟩,I.os,I.bare,I.base,I.loc,I.cell,I.free,I.gh,I.pin,I.aI,I.len⟩
theorem Inv.unmark{v:af}(I:Inv (X.mark v) pins σ H s)(ok:X.Ok):Inv X pins σ H s:=⟨ok,I.os,I.bare,I.base,I.loc,I.cell,I.free,I.gh,I.pin,I.aI,I.len⟩
noncomputable abbrev Cx.pinned(X:Cx)(pn:aa (ah×Obj))(xe:af->ag->Prop):Cx:={X with pn:=pn,xe:=xe}
theorem Inv.abg{xe:af->ag->Prop}(I:Inv X pins σ H s):Inv (X.pinned (X.pn++pins) xe) [] σ H s:=
 ⟨⟨I.ok.mod,I.ok.kind,I.ok.glob,I.ok.blt,I.ok.above,I.ok.inj,I.ok.has,I.ok.ma,I.ok.hd,I.ok.frames,I.ok.rB,I.ok.vG,I.ok.bs,I.ok.kU,I.ok.pJ,I.ok.qv,I.ok.i0,I.ok.mi⟩,I.os,I.bare,I.base,I.loc,I.cell,I.free,I.gh,λp hp=>I.pin p (by simpa using hp),I.aI,I.len⟩
theorem Inv.xx{xe:af->ag->Prop}{xA:aa (ah×Obj)}(I:Inv (X.pinned (X.pn++pins) xe) xA σ H s)(ok:X.Ok):Inv X pins σ H s:=
 ⟨ok,I.os,I.bare,I.base,I.loc,I.cell,I.free,I.gh,λp hp=>I.pin p (yJ _ hp),I.aI,I.len⟩
end
noncomputable def agU(E:XK)(i:Nat)(tb:TS):TS:=λD σ H=>tb D σ H/\∀C x H',E (.ref C) (some x) H'->H' x=none->D.nx ((List.replicate σ.length none).set i (some (.ref x))) (upd H' x (jO x C))
theorem ad5{X:Cx}{body:aa Stmt}{tb:TS}{E:XK}{i j:Nat}{cn n kx:Str}{D:ah}{np p1 p2 p3 EN pos:Pos}
  (hN:X.N.Nodup) (hi:X.N[i]?=some kx) (hj:X.N[j]?=some n) (dH:i≠j) (QJ:X.env.scope.names.lookup kx=some .local) (hn:X.env.scope.names.lookup n=some .local)
  (Ri:X.stack=X.env::X.outer) (ZC:X.env.frame=some X.env.locals) (hg:Gl X cn) (hm:X.mg cn=some (.ref D)) (hD:iD X.K D)
  (pC:∀C x H',E (.ref C) x H'->iD X.K C/\W.mroIn X.K C (.ref D)=some true)
  (hb:∀(pn:aa (ah×Obj)) (xe:af->ag->Prop),j6 (cI X.prog X.w) (X.pinned pn xe) E->gJ (X.pinned pn xe) body tb)
  (fq:(cn==("__debug__":Str))=false:=by decide) (wk:(n==("__debug__":Str))=false:=by decide) (Ze:(n==("__classdict__":Str))=false:=by decide):
  PS X (.Try body [.ExceptHandler (some (.Name cn np)) (some n) [.Assign [.Name kx p1] (.Name n p2) p3] EN] [] [] pos) (agU E i tb):=by
 refine .mk ?_;intro pins s σ H D' I h
 obtain⟨Y4,hk⟩:=h
 have nil:∀b∈([]:aa ah),(b∈X.ex\/X.s₀.heap.objs.size<=b)/\b≠X.env.locals/\(∀x c,X.env.cells.lookup x=some c->c≠b)/\∀p∈X.pn++pins,p.1≠b:=λb z=>absurd z (by simp)
 have jw:j6 (cI X.prog X.w) (X.pinned (X.pn++pins) λe s'=>∃σ1 H1 s1,Inv X pins σ1 H1 s1/\cI X.prog X.w X.stack H1 s1 E e s') E:=
  λxA σ1 H1 s1 e s' I1 h1=>⟨σ1,H1,s1,I1.xx I.ok,h1⟩
 refine wpAny_Try_except (gU (hb _ _ jw [] s σ H D' I.abg Y4) (λf s1 q=>?_) λe s1 q=>?_)
 ·cases f with
  |next=>obtain⟨σ',H',I',q⟩:=q;exact yO ⟨σ',H',I'.xx I.ok,q⟩
  |brk=>obtain⟨σ',H',I',q⟩:=q;exact⟨σ',H',I'.xx I.ok,q⟩
  |cont=>obtain⟨σ',H',I',q⟩:=q;exact⟨σ',H',I'.xx I.ok,q⟩
  |ret u=>obtain⟨v,σ',H',I',r,q⟩:=q;exact⟨v,σ',H',I'.xx I.ok,r,q⟩
 ·obtain⟨σ1,H1,s2,I1,x,C,a0,B,H',rfl,os,bare,un,aI,fl,hB,hE⟩:=q
  have ZD:X.A.frames=some (X.env::X.outer):=by rw[I.ok.frames,Ri]
  have Yx:Heap.FlyingW B (X.env::X.outer) x (.ref C) a0 s1.heap:=by rw[<-Ri];exact fl
  refine wpAny_looks_onW ZD ZC Yx λh4 Zr up4=>wpAny_landsW Zr λh5 DB up5=>?_
  have Uc:s1.heap.UpToSlots h5:=up4.trans up5
  obtain⟨un5,aaf⟩:=BX I1.qx un aI hB DB.1 Uc
  have I5:Inv X pins σ1 H' {s1 with heap:=h5}:=I1.vw (s':={s1 with heap:=h5}) (ch:=[]) os un5 aaf bare nil
  obtain⟨ox0,vs0,Q2,_,aac,_⟩:=fl.first
  have xn:x∉eG X.stack:=λz=>by
   obtain⟨n0,o,e,d⟩:=I1.qx x z
   obtain⟨sl,e1⟩:=un.slot x o e n0 z (by simp)
   rw[Q2]at e1
   cases e1
   exact d _ aac
  have nB:¬((∃o',s2.heap.get? x=some o')\/∃q,H' x=some q):=λt=>by
   have e1:=hB x ox0 Q2 xn t
   rw[fl.2.1]at e1
   cases e1
  have nX:H' x=none:=by
   cases q:H' x with
   |none=>rfl
   |some o=>exact absurd (Or.inr ⟨o,q⟩) nB
  obtain⟨xC,xD⟩:=pC _ _ _ hE
  obtain⟨oe,hoe,jR⟩:=DB.there
  refine wpAny_handleBy_cons (codeAny_handlers_test (rN (X:=X.mark (.ref x)) (I5.mark _) hg hm ?_ fq)) (by intro q;cases q)
  refine zkK (K:=X.K) I5.dS hoe jR xC hD xD ?_
  refine codeAny_handlers_suite_as (lands_againW DB λh6 PL up6=>?_)
  obtain⟨lL,EI⟩:=BX I1.qx un aI hB PL.1 (Uc.trans up6)
  obtain⟨ox,vs,i5,aaa,aad,_⟩:=PL.first
  have aag:cG X.prog X.w (upd H' x (jO x C)) h6:=EI.AZ nX (Yt i5 aaa aad)
  have ag8:Un (eG X.stack) [] H1 (upd H' x (jO x C)) s2.heap h6:=⟨lL.keep,lL.slot,λb o e n hb=>by
    rw[aw λz=>nB (.inl ⟨o,by rw[<-z];exact e⟩)]
    exact lL.free b o e n hb,lL.there,λb xs e=>by
    rw[aw (a6 (lL.i_ b xs e) nX)]
    exact lL.i_ b xs e,λb o u e=>by
    rw[aw (a6 (lL.iH b o u e) nX)]
    exact lL.iH b o u e,λb ps e=>by
    obtain⟨more,e1⟩:=lL.jX b ps e
    exact⟨more,by rw[aw (a6 e1 nX)];exact e1⟩⟩
  have I6:Inv X pins σ1 (upd H' x (jO x C)) {s1 with heap:=h6}:=I1.vw (s':={s1 with heap:=h6}) (ch:=[]) os ag8 aag bare nil
  have jt:σ1.length=σ.length:=I1.len.trans I.len.symm
  have I7:Inv (X.mark (.ref x)) pins (List.replicate σ.length none) (upd H' x (jO x C)) {s1 with heap:=h6}:=
   (I6.weak (σ':=List.replicate σ.length none) (by simp[jt]) (λk v e=>by
    rw[yF]at e
    split at e<;>cases e)).mark _
  have qB:j<σ.length:=by rw[I.len];exact(List.getElem?_eq_some_iff.mp hj).1
  have QG:i<σ.length:=by rw[I.len];exact(List.getElem?_eq_some_iff.mp hi).1
  refine Bm (X:=X.mark (.ref x)) I7 hN hj (.inl hn) (v:=.ref x) rfl (λs8 I8=>?_) (.inr hn)
  have hs:=aD (Oh (X:=(X.mark (.ref x)).t7) (i:=i) (pos:=p3) (pos':=p1) hN hi (.inl QJ) (S6 (i:=j) (pos:=p2) hj (.inl hn) wk Ze) (by rfl) (.inr QJ)) pins s8 _ _
   {nx:=λσ' kP=>σ'=((List.replicate σ.length (none:ae V)).set j (some (.ref x))).set i (some (.ref x))/\kP=upd H' x (jO x C),rt:=λ_ _=>False} (I8.lM _)
   ⟨.ref x,by rw[u0 (by simpa using qB)],rfl,rfl⟩
  refine gU hs (λf s9 q9=>?_) λ_ _ z=>z.elim
  cases f with
  |next=>
   obtain⟨σ9,H9,I9,e9,f9⟩:=q9
   subst e9 f9
   refine YK (X:=X) (I9.oq.unmark I.ok) hN hj hn λn_ Cq=>?_
   refine⟨(List.replicate σ.length none).set i (some (.ref x)),_,Cq.weak (by simp) (λk v e=>?_),hk C x H' hE nX⟩
   by_cases QI:k=i
   ·subst QI
    rw[u0 (by simpa using QG)]at e
    cases e
    rw[yG (gH dH),u0 (by simpa using QG)]
   ·rw[yG (gH QI),yF]at e
    split at e<;>cases e
  |brk=>obtain⟨_,_,_,z⟩:=q9;exact z.elim
  |cont=>obtain⟨_,_,_,z⟩:=q9;exact z.elim
  |ret u=>obtain⟨_,_,_,_,_,z⟩:=q9;exact z.elim
noncomputable def PF(X:Cx)(ifs:aa Expr)(t:TT):Prop:=
 ∀(pins:aa (ah×Obj)) (s:ag) (σ:St) (H:Hp) (Q:ai->Hp->Prop),Inv X pins σ H s->t σ H Q->
  wpAny (model X.prog X.w) X.A (forIn ifs true λc r=>if r=true then do let ok <-isTrue c X.env (eval c X.env);pure (ForInStep.yield ok)else pure (ForInStep.yield r)) (TP X pins σ Q) X.xe s
noncomputable def jy:TT:=λ_ H Q=>Q true H
theorem yx:PF X [] jy:=λpins s σ H Q I h=>aR ⟨H,I,h⟩
theorem lU{c:Expr}{t:TT}(hc:PT X c t):PF X [c] t:=by
 intro pins s σ H Q I h
 show wpAny _ _ ((isTrue c X.env (eval c X.env) >>= λok=>pure (ForInStep.yield ok)) >>= _) _ _ s
 refine aC (aC (aO (hc pins s σ H Q I h) λb s1 q=>aR ?_))
 exact aR q
section
theorem zkY{elt target iter:Expr}{ifs:aa Expr}{scope:Scope}{pos:Pos}{it acc:af}{env:Env}(J:Nat->ag->Prop)
  (turn:∀n s,J n s->wpAny (model prog w) A (pyNext it) (λr s1=>match r with
   |none=>R (.ok .next) s1
   |some v=>wpAny (model prog w) A (letOwnedTupleGo target it v) (λ_ s2=>wpAny (model prog w) A (assign target env v) (λ_ s3=>
     wpAny (model prog w) A (forIn ifs true λc r=>if r=true then do let ok <-isTrue c env (eval c env);pure (ForInStep.yield ok)else pure (ForInStep.yield r)) (λok s4=>
      if ok=true then wpAny (model prog w) A (eval elt env) (λx s5=>wpAny (model prog w) A (call (.builtin "list.append") [acc,x]) (λ_ s6=>∃m,m<n/\J m s6) (λ_ _=>False) s5) (λ_ _=>False) s4
      else ∃m,m<n/\J m s4) (λ_ _=>False) s3) (λ_ _=>False) s2) (λ_ _=>False) s1) (λ_ _=>False) s)
  (n:Nat) (h:J n s):codeAny (model prog w) A (.compLoop (.ListComp elt [⟨target,iter,ifs,0⟩] scope pos) 0 it acc env) R s:=by
 have no:∀{α:Type} {t:Sem α} {Q:α->ag->Prop} {E:af->ag->Prop} {s:ag},wpAny (model prog w) A t Q (λ_ _=>False) s->wpAny (model prog w) A t Q E s:=λh=>gU h (λ_ _ q=>q) λ_ _ z=>z.elim
 refine codeAny_loop rfl J (λn s hI=>wpAny_noted ?_) n h
 rw[compTurn_list]
 refine aC (wpAny_standAt (aC (no (aO (turn n s hI) λr s1 h1=>?_))))
 cases r with
 |none=>exact aR h1
 |some v=>
  refine aC (no (aO h1 λ_ s2 h2=>aC (no (aO h2 λ_ s3 h3=>aC (no (aO h3 λok s4 h4=>?_))))))
  cases ok with
  |false=>exact aR ⟨rfl,h4⟩
  |true=>exact aC (aC (no (aO h4 λx s5 h5=>aC (no (aO h5 λ_ s6 h6=>aR (aR ⟨rfl,h6⟩))))))
end
section
variable {e:Expr}
noncomputable def agF(te:TE):TE:=λσ H Q=>te σ H λx H1=>∃i:Int,x= .int i/\i.natAbs<10^30/\∀y:Str,y.length<=2000->Q (.str y) H1
theorem ziQ(h:n<10^30):n.log2<1920:=by
 by_cases hz:n=0
 ·subst hz
  decide
 ·exact(Nat.log2_lt hz).mpr (sE h (by decide))
theorem oF(he:PE X e te):PE X (.FormattedValue e (-1) none pos) (agF te):=by
 refine .mk ?_;intro pins s σ H Q I h
 refine wpAny_FormattedValue_plain (aO (he pins s σ H _ I h) λv s1 ⟨x,H1,I1,r,i,ex,hi,q⟩=>?_)
 subst ex
 obtain⟨t,rfl⟩:=r
 refine wpAny_formatField_int (ziQ hi) ?_
 refine⟨.str _,H1,I1.tok _,⟨_,rfl⟩,q _ ?_⟩
 have e:=int_text_length_le10 (k:=30) (by decide) hi
 show(Str.ofString (toString i)).length<=2000
 rw[PySem.ofString_length]
 omega
noncomputable def agH(te:TE):TE:=λσ H Q=>te σ H λx H1=>∃z:Str,x= .str z/\z.length<=2000/\Q (.str z) H1
theorem Wd(he:PE X e te):PE X (.FormattedValue e (-1) none pos) (agH te):=by
 refine .mk ?_;intro pins s σ H Q I h
 refine wpAny_FormattedValue_plain (aO (he pins s σ H _ I h) λv s1 ⟨x,H1,I1,r,z,ex,hz,q⟩=>?_)
 subst ex
 obtain⟨t,rfl⟩:=r
 exact PyProof.Rows.formatField_str (λt' tk=>⟨.str _,H1,I1.tok _,⟨_,rfl⟩,q⟩) (by rw[a7];omega)
noncomputable def agG(te:TE):TE:=λσ H Q=>te σ H λx H1=>∃z:Str,x= .str z/\(reprText z).length<=2000/\Q (.str (reprText z)) H1
theorem We(he:PE X e te):PE X (.FormattedValue e 114 none pos) (agG te):=by
 refine .mk ?_;intro pins s σ H Q I h
 refine wpAny_FormattedValue_repr (aO (he pins s σ H _ I h) λv s1 ⟨x,H1,I1,r,z,ex,hz,q⟩=>?_)
 subst ex
 obtain⟨t,rfl⟩:=r
 refine wpAny_pyReprObj_str ?_ (by rw[a7];omega)
 exact PyProof.Rows.formatField_str (λt' tk=>⟨.str _,H1,(I1.tok _).tok _,⟨_,rfl⟩,q⟩) (by rw[a7];omega)
noncomputable def L3:aa TE->St->Hp->(Hp->Prop)->Prop
 | [],_,H,Q=>Q H
 |t::r,σ,H,Q=>t σ H λv H1=>∃y:Str,v= .str y/\y.length<=2000/\L3 r σ H1 Q
noncomputable def agJ(ts:aa TE):TE:=λσ H Q=>L3 ts σ H λH1=>∀y:Str,y.length<=200000->Q (.str y) H1
theorem V0{Q:VK}:∀{es:aa Expr} {ts:aa TE},Paired (PE X) es ts->∀{acc:Str} {H:Hp} {s:ag},Inv X pins σ H s->acc.length+2000*es.length<=200000->L3 ts σ H (λH1=>∀y:Str,y.length<=200000->Q (.str y) H1)->
  Joins (model X.prog X.w) X.A X.xe (es.map λe=>eval e X.env) acc (λout s1=>out.length<=sizeLine/\EP X pins σ Q (.str out s1.toks) {s1 with toks:=s1.toks+1}) s
 |_,_,.nil,acc,H,s,I,hl,h=>⟨by rw[a7];simp at hl;omega,.str _,H,I.tok _,⟨_,rfl⟩,h acc (by simp at hl;omega)⟩
 |_,_,.cons (a:=e) (l₁:=es) he hr,acc,H,s,I,hl,h=>by
  refine aO (he pins s σ H _ I h) λv s1 ⟨x,H1,I1,r,y,ex,hy,q⟩=>?_
  subst ex
  obtain⟨t,rfl⟩:=r
  have ju:(acc++y).length+2000*es.length<=200000:=by
   rw[strLen_append]
   rw[d5]at hl
   omega
  exact⟨y,t,rfl,by rw[a7];omega,V0 hr I1 ju q⟩
theorem pX{v1 v2:Expr}{ts:aa TE}(h:Paired (PE X) (v1::v2::rest) ts)(hl:(v1::v2::rest).length<=100)(nP:evalEach (v1::v2::rest) X.env=(v1::v2::rest).map (λe=>eval e X.env):=by rfl):
  PE X (.JoinedStr (v1::v2::rest) pos) (agJ ts):=by
 refine .mk ?_;intro pins s σ H Q I hq
 refine wpAny_JoinedStr ?_
 rw[nP]
 refine V0 h I ?_ hq
 show 0+2000*(v1::v2::rest).length<=200000
 omega
end
noncomputable def aee:V->aa V->Hp->VK->Prop:=λx vs H Q=>∃(l:ah) (xs:aa V) (i:Int) (k:Nat) (y:V),x= .ref l/\vs= [.int i,y]/\i=(k:Int)/\H l=some (.lst xs)/\k<=xs.length/\xs.length<sizeLine/\Q .aE (upd H l (.lst (xs.take k++y::xs.drop k)))
theorem abh(its:aa af)(i:Int)(k:Nat)(u:af)(hi:i=(k:Int))(hk:k<=its.length):
  (λxs:Array af=>have k:=if i<0 then(i+(xs.size:Int)).toNat else min i.toNat xs.size;(xs.extract 0 k).push u++xs.extract k) its.toArray=(its.take k++u::its.drop k).toArray:=by
 have g1:its.toArray.extract 0 k=(its.take k).toArray:=by simp
 have g2:its.toArray.extract k=(its.drop k).toArray:=by
  simp
  exact List.take_of_length_le (by rw[B8];omega)
 have tI:(if i<0 then(i+(its.toArray.size:Int)).toNat else min i.toNat its.toArray.size)=k:=by
  rw[ax (by omega),eP]
  omega
 show(its.toArray.extract 0 (if i<0 then(i+(its.toArray.size:Int)).toNat else min i.toNat its.toArray.size)).push u++its.toArray.extract (if i<0 then(i+(its.toArray.size:Int)).toNat else min i.toNat its.toArray.size)=_
 rw[tI,g1,g2,List.push_toArray,List.append_toArray,B3]
 rfl
theorem zj2:vm X "list.insert" aee:=by
 intro pins s σ H x vs v us Q I rx rv h
 obtain⟨l,xs,i,k,y,rfl,rfl,hi,hH,hk,hz,q⟩:=h
 cases rx
 obtain⟨u1,u2,rfl,r1,r2⟩:=rv.two
 obtain⟨t,rfl⟩:=r1
 obtain⟨z,its,n,r,hl,e⟩:=I.w_ hH
 have zE:sizeLine=16777216:=a7
 have Ea:¬(!Builtin.List.listFitsIndex i)=true:=by
  rw[fitsIndex_both (k:=i) (by omega) (by omega)]
  exact cb
 have hsz:its.toArray.size<=sizeLine:=by
  rw[eP]
  omega
 refine call_meets F.slot_list_insert ⟨_,e,rfl⟩ F.entry_list_insert (F.args_list_insert_3 _ _ _) (AutoSeq1.list_insert_list_int_val_1 l its.toArray n i t u2 Ea hsz) ⟨e,?_⟩
 refine⟨.aE,_,I.Fq (its':=its.take k++u2::its.drop k) hH e (abh its i k u2 hi (by omega)) (Vals.append (r.take k) (.cons r2 (r.drop k))) ?_,rfl,q⟩
 rw[gF,d5,iT,B8]
 omega
open PySem.W (Dat kqdP kqdPs kqdOk)
mutual
inductive h_(K:W.Frag)(H:Hp):V->Dat->Prop
 |aE:h_ K H .aE .none
 |int (i:Int):h_ K H (.int i) (.int i)
 |str (x:Str):h_ K H (.str x) (.str x)
 |tup {a:Addr} {xs:List V} {ds:List Dat}:aM K H a xs->ji K H xs ds->h_ K H (.ref a) (.tuple ds)
 |lst {a:Addr} {xs:List V} {ds:List Dat}:aK K H a xs->ji K H xs ds->h_ K H (.ref a) (.list ds)
inductive ji(K:W.Frag)(H:Hp):List V->List Dat->Prop
 |nil:ji K H [] []
 |cons {x:V} {xs:List V} {d:Dat} {ds:List Dat}:h_ K H x d->ji K H xs ds->ji K H (x::xs) (d::ds)
end
section
variable {pins:aa (ah×Obj)}
mutual
theorem h_.reads(I:Inv X pins σ H s):∀{x:V} {d:Dat} {u:af},h_ X.K H x d->RelV x u->∃as,Reads s.heap u (kqdP d) as
 |_,_,_,.aE,r=>by cases r;exact⟨_,Reads.none⟩
 |_,_,_,.int i,r=>by obtain⟨t,rfl⟩:=r;exact⟨_,Reads.int i t⟩
 |_,_,_,.str x,r=>by obtain⟨t,rfl⟩:=r;exact⟨_,Reads.str x t⟩
 |_,_,_,.tup h hs,r=>by
  cases r
  obtain⟨its,rv,⟨o,e,c,n,d⟩,_⟩:=I.tuple h
  obtain⟨as,q⟩:=ji.reads I hs rv
  rw[kqdP]
  exact⟨_,Reads.tuple e c d q⟩
 |_,_,_,.lst h hs,r=>by
  cases r
  obtain⟨its,rv,⟨o,n,e,c,_,d⟩,_⟩:=I.list h
  obtain⟨as,q⟩:=ji.reads I hs rv
  rw[kqdP]
  exact⟨_,Reads.list e c d q⟩
theorem ji.reads(I:Inv X pins σ H s):∀{xs:aa V} {ds:aa Dat} {us:aa af},ji X.K H xs ds->Vals xs us->∃as,ReadsAll s.heap us (kqdPs ds) as
 |_,_,_,.nil,r=>by cases r;exact⟨_,ReadsAll.nil⟩
 |_,_,_,.cons h hs,r=>by
  cases r with
  |cons r rs=>
   obtain⟨as,q⟩:=h_.reads I h r
   obtain⟨bs,p⟩:=ji.reads I hs rs
   rw[kqdPs]
   exact⟨_,ReadsAll.cons q p⟩
end
end
section
theorem Bw{d:Dat}(hn:n<=9)(h:kqdOk n d=true):SeqAt.shaped (kqdP d)=true:=by
 have l:=W.kqd_lay n d h
 unfold SeqAt.shaped
 rw[l.1,Bool.true_and]
 exact bO (eA l.2 (eA hn (by decide)))
noncomputable def Ta(K:W.Frag)(neg:ai):R2:=λx y H Q=>∃d e,h_ K H x d/\h_ K H y e/\kqdOk 9 d=true/\kqdOk 9 e=true/\∀k:ai,(k=true↔d=e)->Q (.bl (if neg then !k else k)) H
theorem adB(hu:X.A.units+64<cLine):d7 X (compareOp .Eq) (Ta X.K false):=by
 intro pins s σ H x y v u Q I rx ry h
 obtain⟨d,e,dx,dy,kd,ke,q⟩:=h
 obtain⟨as,r1⟩:=h_.reads I dx rx
 obtain⟨bs,r2⟩:=h_.reads I dy ry
 exact eq_dataH r1 r2 (Bw (bu _) kd) (Bw (bu _) ke) hu ⟨.bl _,H,I,rfl,q _ (W.kqd_eqv 9 d e 9 kd ke)⟩
theorem SX(hu:X.A.units+64<cLine):d7 X (compareOp .NotEq) (Ta X.K true):=by
 intro pins s σ H x y v u Q I rx ry h
 obtain⟨d,e,dx,dy,kd,ke,q⟩:=h
 obtain⟨as,r1⟩:=h_.reads I dx rx
 obtain⟨bs,r2⟩:=h_.reads I dy ry
 exact ne_dataH r1 r2 (Bw (bu _) kd) (Bw (bu _) ke) hu ⟨.bl _,H,I,rfl,q _ (W.kqd_eqv 9 d e 9 kd ke)⟩
end
open PySem PySem.Spec PyProof.Rows
noncomputable def lW(X:Cx)(N:aa Str)(scope:Scope)(cl:aa (Str×ah))(C:ah)(s2:ag)(H2:Hp)(fp:aa ah):Cx:=
 {X with N:=N,s₀:=s2,H₀:=H2,env:={scope:=relabel scope X.env,locals:=C,globals:=X.env.globals,cells:=cl,qual:=X.env.qual,func:=none,code:=X.env.code,frame:=X.env.frame,builtins:=X.env.builtins},
          outer:=X.stack,ex:=fp,fn:=λ_=>false,pn:=[],xe:=λ_ _=>False}
theorem iu{y:Str}(h:scope.names.lookup y=some .free):(relabel scope env).names.lookup y=some .cell\/(relabel scope env).names.lookup y=some .free:=by
 have main:∀names:aa (Str×NameKind),names.lookup y=some .free->(names.map λ(n,k)=>if(k==NameKind.free&&env.scope.kind== .function&&env.kindOf n==some .cell)then(n,NameKind.cell)else(n,k)).lookup y=some .cell\/
   (names.map λ(n,k)=>if(k==NameKind.free&&env.scope.kind== .function&&env.kindOf n==some .cell)then(n,NameKind.cell)else(n,k)).lookup y=some .free:=λnames=>by
  induction names with
  |nil=>intro h;simp at h
  |cons p r ih=>
   obtain⟨n,k⟩:=p
   intro h
   rw[dO]
   cases hx:y==n with
   |true=>
    rw[j_,hx]at h
    have h:some k=some NameKind.free:=h
    obtain rfl:=cq h
    by_cases z:(NameKind.free==NameKind.free&&env.scope.kind== .function&&env.kindOf n==some .cell)=true
    ·refine .inl ?_
     show List.lookup y ((if(NameKind.free==NameKind.free&&env.scope.kind== .function&&env.kindOf n==some .cell)=true then(n,NameKind.cell)else(n,NameKind.free))::_)=_
     rw[aA z,j_,hx]
    ·refine .inr ?_
     show List.lookup y ((if(NameKind.free==NameKind.free&&env.scope.kind== .function&&env.kindOf n==some .cell)=true then(n,NameKind.cell)else(n,NameKind.free))::_)=_
     rw[ax z,j_,hx]
   |false=>
    rw[j_,hx]at h
    have h:r.lookup y=some .free:=h
    have e:∀q:Str×NameKind,q.1=n->∀l,List.lookup y (q::l)=List.lookup y l:=λq hq l=>by
     obtain⟨q1,q2⟩:=q
     subst hq
     rw[j_,hx]
    rw[e _ (by show(if _ then _ else _:Str×NameKind).1=n;split<;>rfl)]
    exact ih h
 exact main _ h
open PySem PySem.Spec PyProof.Rows
theorem M9{P:Str->ah->Prop}{f:Str×NameKind->aa (Str×ah)->Sem (ForInStep (aa (Str×ah)))}:∀(names:aa (Str×NameKind)) (acc:aa (Str×ah)),
  (∀x∈names,(x.2≠.free/\∀r,f x r=pure (.yield r))\/(x.2= .free/\∃c,P x.1 c/\∀r,f x r=pure (.yield ((x.1,c)::r))))->
  ∃cl,forIn names acc f=pure cl/\(∀p∈cl,p∈acc\/P p.1 p.2)/\(∀p∈acc,p∈cl)/\∀x∈names,x.2= .free->∃c,(x.1,c)∈cl
 | [],acc,_=>⟨acc,rfl,λp hp=>.inl hp,λp hp=>hp,λx hx=>by simp at hx⟩
 |x::r,acc,h=>by
  rw[List.forIn_cons]
  rcases h x bA with⟨n,e⟩ | ⟨n,c,pc,e⟩
  ·obtain⟨cl,h1,h2,h3,h4⟩:=M9 r acc λz hz=>h z (cE _ hz)
   refine⟨cl,by rw[e];exact h1,h2,h3,λz hz hf=>?_⟩
   rcases hZ.mp hz with rfl|hz
   ·exact absurd hf n
   ·exact h4 z hz hf
  ·obtain⟨cl,h1,h2,h3,h4⟩:=M9 r ((x.1,c)::acc) λz hz=>h z (cE _ hz)
   refine⟨cl,by rw[e];exact h1,λp hp=>?_,λp hp=>h3 p (cE _ hp),λz hz hf=>?_⟩
   ·rcases h2 p hp with z|z
    ·rcases hZ.mp z with rfl|z
     ·exact .inr pc
     ·exact .inl z
    ·exact .inr z
   ·rcases hZ.mp hz with rfl|hz
    ·exact⟨c,h3 _ bA⟩
    ·exact h4 z hz hf
theorem Uw{c:ah}:∀{cl:aa (Str×ah)},(x,c)∈cl->∃c',cl.lookup x=some c'
 | [],h=>by simp at h
 | (y,d)::r,h=>by
  rw[j_]
  cases e:x==y with
  |true=>exact⟨d,rfl⟩
  |false=>
   rcases hZ.mp h with z|z
   ·injection z with z1 z2
    rw[z1]at e
    simp at e
   ·exact Uw z
theorem zgW(h:∀x∈scope.names,x.2= .free->∃c,env.cells.lookup x.1=some c):
  ∃cl,closureFor scope env=pure cl/\(∀p∈cl,env.cells.lookup p.1=some p.2)/\∀x∈scope.names,x.2= .free->∃c,cl.lookup x.1=some c:=by
 have main:=M9 (P:=λx c=>env.cells.lookup x=some c) (f:=λx r=>if(x.2== .free)=true then(do let a <-cellOf env x.1;pure (ForInStep.yield ((x.1,a)::r)))else pure (ForInStep.yield r)) scope.names [] λx hx=>by
  by_cases hf:x.2= .free
  ·obtain⟨c,hc⟩:=h x hx hf
   refine .inr ⟨hf,c,hc,λr=>?_⟩
   rw[aA (by simp[hf])]
   unfold cellOf
   rw[hc]
   rfl
  ·exact .inl ⟨hf,λr=>ax (by simpa using hf)⟩
 obtain⟨cl,h1,h2,_,h4⟩:=main
 refine⟨cl,?_,λp hp=>?_,λx hx hf=>?_⟩
 ·unfold closureFor
  refine Eq.trans (dA (λz:Sem (aa (Str×ah))=>z >>= λcs=>pure cs) (Eq.trans ?_ h1)) rfl
  rfl
 ·rcases h2 p hp with z|z
  ·simp at z
  ·exact z
 ·obtain⟨c,hc⟩:=h4 x hx hf
  exact Uw hc
noncomputable def p0(n:Nat)(caps:aa (Str×Nat))(wi:TI)(g:TG)(tc:TT)(te:TE):TE:=λσ H Q=>∃sT:aa V,sT.length=caps.length/\(∀(j:Nat) p,caps[j]?=some p->∃v,σ[p.2]?=some (some v)/\sT[j]?=some v)/\wi σ H λJ H1=>∃W:Nat->Nat->aa V->Hp->Prop,(∃m,W 0 m [] H1)/\∀i m ys H,W i m ys H->ys.length<=sizeLine/\
 ((J.stop i H/\∀p,H p=none->Q (.ref p) (upd H p (.lst ys)))\/
  (J.go i H/\∀x H',J.kF i H x H'->g x (List.replicate n none++sT.map some) H' λσ2 H2=>tc σ2 H2 λb H3=>if b=true then te σ2 H3 λy H4=>∃m',m'<m/\W (i+1) m' (ys++ [y]) H4 else ∃m',m'<m/\W (i+1) m' ys H3))
noncomputable def eh(X:Cx)(N:aa Str)(scope:Scope)(pre:ah->aa (Str×ah))(fn:Str->ai)(cl:aa (Str×ah))(C:ah)(s2:ag)(H2:Hp)(fp:aa ah):Cx:=
 {lW X N scope (pre C++cl) C s2 H2 fp with fn:=fn}
structure Pre(scope:Scope)(pre:Addr->List (Str×Addr))(fn:Str->Bool)(cs:List Str):Prop where
 env:∀{M:Model} {A:Around} {E:Value->Shared->Prop} {s:Shared} {globals:Addr} {cl:List (Str×Addr)} {qual:Str} {func:Option Addr} {code:Value} {env:Env} {builtins:Addr} {Q:Env->Shared->Prop},
  (∀h₁ tk,h₁.Ns s.heap.objs.size (λ_=>none)->(∀b o,s.heap.get? b=some o->h₁.get? b=some o)->(∀x c,(x,c)∈pre s.heap.objs.size->h₁.IsCell c none)->Q (newEnv scope s.heap.objs.size globals (pre s.heap.objs.size++cl) qual func code (some env) builtins) {s with heap:=h₁,toks:=tk})->
  wpAny M A (newFunctionEnv scope globals cl [] qual func code (some env) builtins) Q E s
 lt:∀C x c,(x,c)∈pre C->C<c
 inj:∀C x y c,(x,c)∈pre C->(y,c)∈pre C->x=y
 fn:∀x,fn x=true->∀C,∃c,(pre C).lookup x=some c
 cx:∀x∈scope.names,x.2= .cell->∀C,∃c,(pre C).lookup x.1=some c
 XF:∀x∈cs,∀C,(pre C).lookup x=none
theorem acA{c:ah}{p cl:aa (Str×ah)}(h:(p++cl).lookup x=some c):(x,c)∈p\/(p.lookup x=none/\cl.lookup x=some c):=by
 rw[B9]at h
 cases e:p.lookup x with
 |some d=>
  rw[e]at h
  obtain rfl:d=c:=cq h
  exact .inl (ni e)
 |none=>
  rw[e]at h
  exact .inr ⟨rfl,h⟩
theorem Vz{cs:aa Str}(kZ:∀x∈scope.names,x.2≠.cell)(hk:scope.kind= .function):Pre scope (λ_=>[]) (λ_=>false) cs:=
 ⟨λ{M A E s globals cl qual func code env builtins Q} h=>wpAny_newFunctionEnv kZ (λy hy=>absurd hy (by simp)) (λh₁ hn hb=>h h₁ _ hn (λb o e=>hb.extBut b o (cU (cc e)) (cL _ e)) λx c z=>absurd z (by simp)) hk,
  λ_ _ _ h=>absurd h (by simp),λ_ _ _ _ h=>absurd h (by simp),(λ_ h=>by cases h),λx hx e=>absurd e (kZ x hx),λ_ _ _=>rfl⟩
theorem adY{cs:aa Str}{x0:Str}(EJ:∀a cl,cellsFrom a scope.names cl=(x0,a)::cl)(EO:∀h,pushCells h scope.names=h.push {cls:=.type "cell",data:=.cell none})(D3:∀x∈scope.names,x.2= .cell->x.1=x0)(nX:∀x∈cs,x≠x0):Pre scope (λC=>[(x0,C+1)]) (λy=>y==x0) cs:=by
 have self:∀C:ah,[(x0,C+1)].lookup x0=some (C+1):=λC=>by simp
 refine⟨λ{M A E s globals cl qual func code env builtins Q} h=>?_,λC x c z=>?_,λC x y c z z'=>?_,λx hf C=>?_,λx hx e C=>?_,λx hx C=>?_⟩
 ·simp only[newFunctionEnv,Option.isSome_some,if_true]
  refine aC (wpAny_alloc ?_)
  refine aC (wpAny_layCells _ (λn q cs=>?lay) _ _ _ _ ?_)
  case lay=>
   cases e:q==NameKind.cell
   ·simp[e]
   ·simp[e]
  rw[EJ,EO]
  rw[show({s with heap:=s.heap.push {cls:=.type "dict",data:=.dict #[]}}:ag).heap.objs.size=s.heap.objs.size+1 from l_ ..]
  rw[List.forIn_nil]
  refine aC (aR (aR (h _ _ ((Heap.Ns.new s.heap (.type "dict")).keeps λb o e=>cL _ e) (λb o e=>cL _ (cL _ e)) λx c z=>?_)))
  have e:(s.heap.push {cls:=.type "dict",data:=.dict #[]}).objs.size=s.heap.objs.size+1:=by rw[l_]
  have z:(x,c)=(x0,s.heap.objs.size+1):=by simpa using z
  injection z with _ z
  subst z
  exact e▸⟨_,eR _ rfl,rfl⟩
 ·have z:(x,c)=(x0,C+1):=by simpa using z
  injection z with _ z
  rw[z]
  exact oS C
 ·have z:(x,c)=(x0,C+1):=by simpa using z
  have z':(y,c)=(x0,C+1):=by simpa using z'
  injection z with z _
  injection z' with z' _
  rw[z,z']
 ·have:x=x0:=by simpa using hf
  rw[this]
  exact⟨_,self C⟩
 ·rw[D3 x hx e]
  exact⟨_,self C⟩
 ·rw[j_]
  have:(x==x0)=false:=by simpa using nX x hx
  rw[this]
  rfl
theorem UC{X:Cx}{pins:aa (ah×Obj)}{s:ag}{σ:St}{H:Hp}{Q:VK}{use:ae (af->Sem Unit)}{Q':af->ag->Prop}{elt tg iter:Expr}{ifs:aa Expr}{scope:Scope}{pos adX:Pos}{pre:ah->aa (Str×ah)}{fn:Str->ai}{own:aa Str}{caps:aa (Str×Nat)}{wi:TI}{g:TG}{tc:TT}{te:TE}
  (km:X.calm=true) (jr:∀x∈scope.names,x.2= .free->x.1∈caps.map (·.1)) (ko:∀p∈caps,scope.names.lookup p.1=some .free/\X.N[p.2]?=some p.1/\X.env.scope.names.lookup p.1=some .cell) (pr:Pre scope pre fn (caps.map (·.1))) (iL:scope.kind= .function) (lg:∀x∈scope.names,x.2= .local->scope.names.lookup x.1=some .local)
  (hi:PI X tg iter wi) (hg:∀cl C s2 H2 fp,PG (eh X (own++caps.map (·.1)) scope pre fn cl C s2 H2 fp) tg g) (hc:∀cl C s2 H2 fp,PF (eh X (own++caps.map (·.1)) scope pre fn cl C s2 H2 fp) ifs tc) (he:∀cl C s2 H2 fp,PE (eh X (own++caps.map (·.1)) scope pre fn cl C s2 H2 fp) elt te)
  (hs:∀x,foldedSetIterable iter X.env x=pure x) (I:Inv X pins σ H s) (h:p0 own.length caps wi g tc te σ H Q)
  (zq:∀(s5:ag) (C D:ah) (H4:Hp) (ys:aa V),(∃m,s5.heap.Ns C m)->C≠X.env.locals->(∀x c,X.env.cells.lookup x=some c->c≠C)->X.s₀.heap.objs.size<=C->upd H4 D (.lst ys) C=none->(∀p∈X.pn++pins,p.1≠C)->
   (∀h6,Heap.SameBut C s5.heap h6->Inv X pins σ (upd H4 D (.lst ys)) {s5 with heap:=h6})->Q (.ref D) (upd H4 D (.lst ys))->compPost (model X.prog X.w) X.A X.xe use Q' (.ref D) C (.ok .next) s5):
  wpAny (model X.prog X.w) X.A (comprehension (.ListComp elt [⟨tg,iter,ifs,0⟩] scope pos) scope X.env adX (newList []) false (eval iter X.env) use) Q' X.xe s:=by
 obtain⟨sT,Zh,Zg,h⟩:=h
 obtain⟨cl,Zd,df,Qq⟩:=zgW (scope:=scope) (env:=X.env) λx hx hf=>by
  obtain⟨p,hp,e⟩:=u4.mp (jr x hx hf)
  rw[<-e]
  exact I.ok.has p.1 (.inl (ko p hp).2.2)
 refine wpAny_comprehension_free (use:=use) rfl hs Zd iL lg (aO (hi pins s σ H _ I h) λv s1 h1=>aO h1 λFi s2 h2=>?_)
 obtain⟨it,fp,tn,J,H2,e0,I2,T,pO,f2,W,⟨m0,w0⟩,turn⟩:=h2
 subst e0
 refine Ci (pr.env λh₁ tk EF hold D0=>?_)
 dsimp only at EF hold D0 ⊢
 generalize hG:s2.heap.push {cls:=.type "list",dict:=none,data:=.seq ([]:aa af).toArray}=G at EF hold D0 ⊢
 have hC:G.objs.size=s2.heap.objs.size+1:=by rw[<-hG,l_]
 have zj:s2.heap.objs.size≠G.objs.size:=by rw[hC];omega
 have nM:s2.heap.objs.size<=G.objs.size:=by rw[hC];omega
 have lt:∀{b:ah} {o:Obj},s2.heap.get? b=some o->b≠G.objs.size/\b≠s2.heap.objs.size:=λe=>by
  have l0:=cc e
  exact⟨cU (eQ l0 nM),cU l0⟩
 have old:∀b o,s2.heap.get? b=some o->h₁.get? b=some o:=λb o e=>hold b o (hG▸cL _ e)
 have DX:h₁.PlainList s2.heap.objs.size #[]:=⟨_,hold _ _ (hG▸eR _ rfl)⟩
 have vI:∀b∈fp,b<s2.heap.objs.size:=λb hb=>by
  obtain⟨o,e,_⟩:=T.obj 0 _ pO b hb
  exact cc e
 have PN:∀b∈fp,b∉eG X.stack:=λb hb z=>by
  obtain⟨_,f1,PB,_⟩:=f2 b hb
  rcases hZ.mp (I2.AV b z)with r|r
  ·exact f1 r
  ·exact PB r
 have Pg:∀x c',cl.lookup x=some c'->X.env.cells.lookup x=some c':=λx c' e=>df _ (ni e)
 have big:∀{x c'},(x,c')∈pre G.objs.size->s2.heap.objs.size<c':=λh=>by
  have:=pr.lt _ _ _ h
  rw[hC]at this
  exact sE (oS _) this
 have lk:∀{x c'},(pre G.objs.size++cl).lookup x=some c'->(x,c')∈pre G.objs.size\/((pre G.objs.size).lookup x=none/\X.env.cells.lookup x=some c'):=λ{x c'} e=>by
  rcases acA e with z|z
  ·exact .inl z
  ·exact .inr ⟨z.1,Pg _ _ z.2⟩
 have cH:∀x c',(pre G.objs.size++cl).lookup x=some c'->H2 c'=none:=λx c' e=>by
  rcases lk e with z| ⟨_,z⟩
  ·exact I2.aI.fresh (lZ (big z))
  ·exact I2.gh x c' z
 have C7:∀x c',(pre G.objs.size++cl).lookup x=some c'->∀b∈fp,c'≠b:=λx c' e b hb=>by
  rcases lk e with z| ⟨_,z⟩
  ·exact λw=>absurd (vI b hb) (by rw[<-w];exact Nat.not_lt.mpr (lZ (big z)))
  ·exact(f2 b hb).2.2.2.2.1 x c' z
 have C8:∀x c',X.env.cells.lookup x=some c'->c'<s2.heap.objs.size:=λx c' z=>by
  obtain⟨v,q⟩:=I2.cell x c' z
  exact q.lt
 have XD:∀x c',(pre G.objs.size++cl).lookup x=some c'->c'≠s2.heap.objs.size:=λx c' e=>by
  rcases lk e with z| ⟨_,z⟩
  ·exact oT (big z)
  ·exact cU (C8 x c' z)
 have ok:(eh X (own++caps.map (·.1)) scope pre fn cl G.objs.size s2 H2 fp).Ok:=⟨I2.mod,iL,I2.ok.glob,I2.ok.blt,nM,λx x' c' e e'=>?inj,λx hx=>?_,λx c' hf e=>?ma,I2.ok.hd,I2.ok.frames,.inl rfl,
  λb hb=>⟨cU (eQ (vI b hb) nM),λx c' e=>C7 x c' e b hb⟩,I2.bs,eA I2.ok.kU I2.sz,λb o e hb=>?_,PN,I2.stack,I2.L0⟩
 case inj=>
  rcases lk e with q2| ⟨_,q2⟩
  ·rcases lk e' with q3| ⟨_,q4⟩
   ·exact pr.inj _ _ _ _ q2 q3
   ·exact absurd (C8 _ _ q4) (Nat.not_lt.mpr (lZ (big q2)))
  ·rcases lk e' with q4| ⟨_,q4⟩
   ·exact absurd (C8 _ _ q2) (Nat.not_lt.mpr (lZ (big q4)))
   ·exact I2.ok.inj x x' c' q2 q4
 case ma=>
  rcases lk e with q2| ⟨q1,_⟩
  ·exact lZ (big q2)
  ·obtain⟨c2,tu⟩:=pr.fn x hf G.objs.size
   rw[tu]at q1
   cases q1
 rotate_left
 ·have hx:(relabel scope X.env).names.lookup x=some .cell\/(relabel scope X.env).names.lookup x=some .free:=hx
  obtain⟨kn,hm,El⟩:∃kn,(x,kn)∈(relabel scope X.env).names/\(kn= .cell\/kn= .free):=by
   rcases hx with z|z
   ·exact⟨_,ni z,.inl rfl⟩
   ·exact⟨_,ni z,.inr rfl⟩
  obtain⟨⟨n0,k0⟩,tK,e0⟩:=u4.mp hm
  have e0:(if(k0==NameKind.free&&X.env.scope.kind== .function&&X.env.kindOf n0==some .cell)=true then(n0,NameKind.cell)else(n0,k0))=(x,kn):=e0
  cases Aa:(pre G.objs.size).lookup x with
  |some c=>exact⟨c,by show(pre G.objs.size++cl).lookup x=_;rw[B9,Aa];rfl⟩
  |none=>
  have zD:k0= .free/\n0=x:=by
   by_cases z:(k0==NameKind.free&&X.env.scope.kind== .function&&X.env.kindOf n0==some .cell)=true
   ·rw[aA z]at e0
    injection e0 with e1 e2
    have:(k0==NameKind.free)=true:=by
     cases w:(k0==NameKind.free)with
     |true=>rfl
     |false=>rw[w]at z;simp at z
    exact⟨by simpa using this,e1⟩
   ·rw[ax z]at e0
    injection e0 with e1 e2
    subst e2
    rcases El with w|w
    ·obtain⟨c2,tu⟩:=pr.cx _ tK w G.objs.size
     rw[<-e1,tu]at Aa
     cases Aa
    ·exact⟨w,e1⟩
  obtain⟨q1,q2⟩:=zD
  obtain⟨c,q3⟩:=Qq _ tK q1
  exact⟨c,by show(pre G.objs.size++cl).lookup x=some c;rw[B9,Aa,<-q2];exact q3⟩
 ·obtain⟨_,_,_,z,_⟩:=f2 b hb
  rcases z with z|z
  ·exact I2.ok.pJ b o e z
  ·exact absurd (eQ (cc (I2.ok.bs b o e).1) z) (kN _)
 have again:∀{pl:aa (ah×Obj)} {σ':St} {H':Hp} {s':ag},Inv (eh X (own++caps.map (·.1)) scope pre fn cl G.objs.size s2 H2 fp) pl σ' H' s'->Inv (eh X (own++caps.map (·.1)) scope pre fn cl G.objs.size s2 H2 fp) pl (List.replicate own.length none++sT.map some) H' s':=λ{pl σ' H' s'} J=>by
  obtain⟨mm,ZY,_⟩:=id J.loc
  refine⟨J.ok,J.os,J.bare,J.base,⟨mm,ZY,λi x v e1 e2 e3=>?_⟩,J.cell,J.free,J.gh,J.pin,J.aI,by show(List.replicate own.length none++sT.map some).length=(own++caps.map (·.1)).length;simp[Zh]⟩
  have e1:(own++caps.map (·.1))[i]?=some x:=e1
  by_cases hi:i<own.length
  ·rw[OO (by simpa using hi),yF]at e2
   rw[aA hi]at e2
   cases e2
  ·rw[OP (by simpa using hi)]at e2
   rw[OP (by omega),fN]at e1
   rw[List.length_replicate,fN]at e2
   generalize i-own.length=j at e1 e2
   cases ec:caps[j]? with
   |none=>
    rw[ec]at e1
    cases e1
   |some p=>
    rw[ec]at e1
    obtain rfl:p.1=x:=cq e1
    obtain⟨v',iN,gq⟩:=Zg j p ec
    rw[gq]at e2
    obtain rfl:v'=v:=cq (cq e2)
    obtain⟨Qu,Zw,Qv⟩:=ko p (d6 ec)
    obtain⟨c,hc⟩:=Qq _ (ni Qu) rfl
    obtain⟨m2,_,hl⟩:=I2.loc
    obtain⟨cu,hr,ZS⟩:=hl p.2 p.1 v' Zw iN (.inr (.inl Qv))
    rcases ZS with⟨hk,_⟩ | ⟨_,c',v8,oc,jR,Z_⟩
    ·have hk:X.env.scope.names.lookup p.1=some .local:=hk
     rw[Qv]at hk
     cases hk
    ·have e5:=Pg _ _ hc
     rw[e5]at v8
     obtain rfl:=cq v8
     have D1:(pre G.objs.size++cl).lookup p.1=some c:=by rw[B9,pr.XF _ (u4.mpr ⟨p,d6 ec,rfl⟩) G.objs.size];exact hc
     obtain⟨sl,e4⟩:=J.base.any jR (cH _ _ D1) (λz=>C7 _ _ D1 _ z rfl)
     exact⟨cu,hr,.inr ⟨iu Qu,c,D1,_,e4,Z_⟩⟩
 have fH:∀b∈fp,H2 b=none:=λb hb=>(f2 b hb).1
 have Ic:Inv (eh X (own++caps.map (·.1)) scope pre fn cl G.objs.size s2 H2 fp) [] (List.replicate (own++caps.map (·.1)).length none) H2 {s2 with heap:=h₁,toks:=tk}:=
  ⟨ok,rfl,I2.bare,Un.kept old,⟨_,EF,λi y v e1 e2 e3=>by
   rw[yF]at e2
   split at e2<;>cases e2⟩,λx c' e=>(by
    rcases lk e with z| ⟨_,z⟩
    ·exact⟨none,D0 _ _ z⟩
    ·obtain⟨v,q⟩:=I2.cell x c' z
     exact⟨v,q.keeps old⟩),I2.aI.fresh nM,λx c' e=>cH x c' e,λp hp=>absurd hp (by simp[eh,lW]),I2.aI.kept old,by simp[eh,lW]⟩
 have nJ:∀{pl:aa (ah×Obj)} {H':Hp},(∀p∈pl,p.1=s2.heap.objs.size)->(∀b∈fp,H' b=none)->∀b∈fp,kh (eh X (own++caps.map (·.1)) scope pre fn cl G.objs.size s2 H2 fp) pl H' b:=λ{pl H'} eX hn b hb=>by
  refine⟨hn b hb,cU (eQ (vI b hb) nM),PN b hb,.inl hb,λx c' e=>C7 x c' e b hb,λp hp=>?_⟩
  have hp:p∈pl:=by simpa [eh,lW]using hp
  rw[eX p hp]
  exact(cU (vI b hb)).symm
 have loop:∀s3:ag,s3={s2 with heap:=h₁,toks:=tk}->
   codeAny (model X.prog X.w) X.A (.compLoop (.ListComp elt [⟨tg,iter,ifs,0⟩] scope pos) 0 (.ref it) (.ref s2.heap.objs.size) (eh X (own++caps.map (·.1)) scope pre fn cl G.objs.size s2 H2 fp).env) (compPost (model X.prog X.w) X.A X.xe use Q' (.ref s2.heap.objs.size) G.objs.size) s3:=by
  rintro s3 rfl
  refine zkY (λn s'=>∃i σ' ys its H',Inv (eh X (own++caps.map (·.1)) scope pre fn cl G.objs.size s2 H2 fp) [] σ' H' s'/\tn i s'.heap/\(∀b∈fp,H' b=none)/\H' s2.heap.objs.size=none/\s'.heap.PlainList s2.heap.objs.size (List.toArray its)/\Vals ys its/\W i n ys H') ?_ m0
   ⟨0,_,[],[],H2,Ic,T.keep _ _ _ pO λb hb o e=>old b o e,fH,I2.aI.fresh (bu _),DX,.nil,w0⟩
  rintro n s4 ⟨i,σ4,ys,its,H4,I4,TV,PO,s_,⟨nn,Z5⟩,AG,w4⟩
  obtain⟨hz,alt⟩:=turn i n ys H4 w4
  have OX:Inv (eh X (own++caps.map (·.1)) scope pre fn cl G.objs.size s2 H2 fp) [(s2.heap.objs.size,_)] σ4 H4 s4:=I4.xB λp hp=>by
   have e:p=(s2.heap.objs.size,_):=List.mem_singleton.mp hp
   subst e
   refine⟨Z5,s_,zj,λz=>?_,λv z=>by cases z⟩
   obtain⟨_,o,eo,_⟩:=I2.qx _ z
   exact absurd (cc eo) (kN _)
  have one:∀p∈[((s2.heap.objs.size:ah),({cls:=.type "list",data:=.seq (List.toArray its) nn}:Obj))],p.1=s2.heap.objs.size:=λp hp=>by rw[List.mem_singleton.mp hp]
  rcases alt with⟨stop,q⟩ | ⟨go,step⟩
  ·refine aO (T.done (eh X (own++caps.map (·.1)) scope pre fn cl G.objs.size s2 H2 fp) rfl rfl rfl km i _ s4 σ4 H4 _ OX (nJ one PO) TV stop) λr s5 ⟨hr,I5⟩=>?_
   subst hr
   obtain⟨m5,wG,_⟩:=id I5.loc
   have inv:∀h6,Heap.SameBut G.objs.size s5.heap h6->Inv X pins σ (upd H4 s2.heap.objs.size (.lst ys)) {s5 with heap:=h6}:=λh6 nV=>by
    have Z6:=(I5.pin (s2.heap.objs.size,_) (iB _ (List.mem_singleton.mpr rfl))).1
    have nC:∀b,(∃o,s2.heap.get? b=some o)->b≠G.objs.size:=λb ⟨o,e⟩=>(lt e).1
    have aah:cG X.prog X.w H4 h6:=λb ob e=>(I5.aI b ob e).lK (λc w' hc qq=>(nV.2 c (by
     rintro rfl
     have z:=I5.free
     rcases hc with r|hc
     ·rw[<-r]at e;rw[show H4 G.objs.size=none from z]at e;cases e
     ·rw[show H4 G.objs.size=none from z]at hc;cases hc)).trans qq) (λ_ qq=>qq) λ_ _ qq=>qq
    have Z7:h6.get? s2.heap.objs.size=some {cls:=.type "list",data:=.seq (List.toArray its) nn}:=(nV.2 _ zj).trans Z6
    have EI:cG X.prog X.w (upd H4 s2.heap.objs.size (.lst ys)) h6:=aah.AZ s_ ⟨hz,its,nn,AG,Z7⟩
    have b5:=I5.base
    have lL:Un (eG X.stack) fp H2 (upd H4 s2.heap.objs.size (.lst ys)) s2.heap h6:=⟨λb o e n hb hx=>(nV.2 b (nC b ⟨o,e⟩)).trans (b5.keep b o e n hb hx),λb o e n hb hx=>by
      obtain⟨sl,e1⟩:=b5.slot b o e n hb hx
      exact⟨sl,(nV.2 b (nC b ⟨o,e⟩)).trans e1⟩,λb o e n hx=>by
      rw[aw (lt e).2]
      exact b5.free b o e n hx,λb o e hx=>by
      obtain⟨o',e1⟩:=b5.there b o e hx
      exact⟨o',(nV.2 b (nC b ⟨o,e⟩)).trans e1⟩,λb xs e=>by
      rw[aw (a6 (b5.i_ b xs e) s_)]
      exact b5.i_ b xs e,λb o u e=>by
      rw[aw (a6 (b5.iH b o u e) s_)]
      exact b5.iH b o u e,λb ps e=>by
      obtain⟨more,e1⟩:=b5.jX b ps e
      exact⟨more,by rw[aw (a6 e1 s_)];exact e1⟩⟩
    have I6:Inv X pins σ (upd H4 s2.heap.objs.size (.lst ys)) {s5 with heap:=h6}:=I2.vw (s':={s5 with heap:=h6}) (ch:=fp) I5.os lL EI I5.bare λb hb=>by
     obtain⟨_,f1,PB,f3,f4,f5⟩:=f2 b hb
     exact⟨f3,f1,f4,f5⟩
    exact I6
   refine zq s5 G.objs.size s2.heap.objs.size H4 ys ⟨m5,wG⟩ (oT (eQ I2.lt nM)) (λx c e=>?_) (eA I2.sz nM) ?_ (λp hp=>?_) inv (q _ s_)
   ·obtain⟨v,z⟩:=I2.cell x c e
    exact cU (eQ z.lt nM)
   ·rw[aw zj.symm]
    exact I5.free
   ·exact cU (eQ (cc (I2.pin p hp).1) nM)
  ·refine aO (T.item (eh X (own++caps.map (·.1)) scope pre fn cl G.objs.size s2 H2 fp) rfl rfl rfl km i _ s4 σ4 H4 _ OX (nJ one PO) TV go) λr s5 ⟨u,hr,h5⟩=>?_
   subst hr
   refine aO h5 λ_ s6 ⟨x,H6,I6,r6,y6,LY,vK⟩=>?_
   have W9:=again I6
   have W8:=W9.pinned (nJ one vK) (T.obj _ _ LY)
   refine aO (hg _ _ _ _ _ _ s6 _ H6 x u _ W8 r6 (step x H6 y6)) λ_ s7 ⟨σ7,H7,I7,q7⟩=>?_
   refine aO (hc _ _ _ _ _ _ s7 σ7 H7 _ I7 q7) λb s8 ⟨H8,I8,q8⟩=>?_
   have fin:∀{σ9:St} {H9:Hp} {s9:ag},Inv (eh X (own++caps.map (·.1)) scope pre fn cl G.objs.size s2 H2 fp) ([((s2.heap.objs.size:ah),({cls:=.type "list",data:=.seq (List.toArray its) nn}:Obj))]++yw fp s6.heap) σ9 H9 s9->
     Inv (eh X (own++caps.map (·.1)) scope pre fn cl G.objs.size s2 H2 fp) [] σ9 H9 s9/\tn (i+1) s9.heap/\(∀b∈fp,H9 b=none)/\H9 s2.heap.objs.size=none/\s9.heap.get? s2.heap.objs.size=some {cls:=.type "list",data:=.seq (List.toArray its) nn}:=λ{σ9 H9 s9} I9=>by
    have p9:=I9.pin (s2.heap.objs.size,_) (iB _ (yJ _ (List.mem_singleton.mpr rfl)))
    refine⟨I9.xB λp hp=>absurd hp (by simp),T.keep _ _ _ LY λb hb o e=>(I9.pin (b,o) (iB _ (iB _ (Bb hb e)))).1,λb hb=>?_,p9.2.1,p9.1⟩
    obtain⟨o,e,_⟩:=T.obj _ _ LY b hb
    exact(I9.pin (b,o) (iB _ (iB _ (Bb hb e)))).2.1
   cases b with
   |false=>
    rw[ax cb]at q8 ⊢
    obtain⟨m',hm,w8⟩:=q8
    obtain⟨J8,t8,r8,d8,o8⟩:=fin I8
    exact⟨m',hm,i+1,σ7,ys,its,H8,J8,t8,r8,d8,⟨nn,o8⟩,AG,w8⟩
   |true=>
    rw[aA rfl]at q8 ⊢
    refine aO (he _ _ _ _ _ _ s8 σ7 H8 _ I8 q8) λu9 s9 ⟨y,H9,I9,r9,m',hm,w9⟩=>?_
    obtain⟨J9,t9,r9',d9,o9⟩:=fin I9
    refine wpAny_list_append_plain (items:=List.toArray its) ⟨nn,o9⟩ (λYO Er Rc=>?_) (by rw[eP,<-AG.length];exact hz)
    have Cq:Inv (eh X (own++caps.map (·.1)) scope pre fn cl G.objs.size s2 H2 fp) [] σ7 H9 {s9 with heap:=YO}:=J9.turned (t':=s9.toks) (it:=s2.heap.objs.size) (λb o hb e=>(Rc.2 b hb).trans e) d9 zj (.inr (bu _)) (λx c' e=>XD x c' e) λp hp=>absurd hp (by simp[eh,lW])
    refine⟨m',hm,i+1,σ7,ys++ [y],its++ [u9],H9,Cq,T.keep _ _ _ t9 λb hb o e=>(Rc.2 b (cU (vI b hb))).trans e,r9',d9,?_,Vals.append AG (.cons r9 .nil),w9⟩
    simpa using Er
 exact codeAny_compStart_list (loop _ rfl) (T.self X.A 0 _ _ _ (T.keep _ _ _ pO λb hb o e=>old b o e) (loop _ rfl))
theorem adS{X:Cx}{elt tg iter:Expr}{ifs:aa Expr}{scope:Scope}{pos:Pos}{pre:ah->aa (Str×ah)}{fn:Str->ai}{own:aa Str}{caps:aa (Str×Nat)}{wi:TI}{g:TG}{tc:TT}{te:TE}
  (km:X.calm=true) (jr:∀x∈scope.names,x.2= .free->x.1∈caps.map (·.1)) (ko:∀p∈caps,scope.names.lookup p.1=some .free/\X.N[p.2]?=some p.1/\X.env.scope.names.lookup p.1=some .cell) (pr:Pre scope pre fn (caps.map (·.1))) (iL:scope.kind= .function) (lg:∀x∈scope.names,x.2= .local->scope.names.lookup x.1=some .local)
  (hi:PI X tg iter wi) (hg:∀cl C s2 H2 fp,PG (eh X (own++caps.map (·.1)) scope pre fn cl C s2 H2 fp) tg g) (hc:∀cl C s2 H2 fp,PF (eh X (own++caps.map (·.1)) scope pre fn cl C s2 H2 fp) ifs tc) (he:∀cl C s2 H2 fp,PE (eh X (own++caps.map (·.1)) scope pre fn cl C s2 H2 fp) elt te)
  (hs:∀x,foldedSetIterable iter X.env x=pure x:=by intro _;rfl):
  PE X (.ListComp elt [⟨tg,iter,ifs,0⟩] scope pos) (p0 own.length caps wi g tc te):=by
 refine .mk ?_;intro pins s σ H Q I h
 rw[eval_ListComp]
 exact UC (use:=none) (Q':=EP X pins σ Q) km jr ko pr iL lg hi hg hc he hs I h λs5 C D H4 ys ⟨m5,wG⟩ _ _ _ _ _ inv q=>⟨m5,wG,λh6 nV=>⟨.ref D,_,inv h6 nV,rfl,q⟩⟩
theorem V_{elt tg iter:Expr}{ifs:aa Expr}{scope:Scope}{pos oi py:Pos}{pre:ah->aa (Str×ah)}{fn:Str->ai}{own:aa Str}{caps:aa (Str×Nat)}{wi:TI}{g:TG}{tc:TT}{te:TE}{y:Str}(hN:X.N.Nodup)(hy:X.N[i]?=some y)(hx:Loc X.env.scope y)
  (km:X.calm=true) (jr:∀x∈scope.names,x.2= .free->x.1∈caps.map (·.1)) (ko:∀p∈caps,scope.names.lookup p.1=some .free/\X.N[p.2]?=some p.1/\X.env.scope.names.lookup p.1=some .cell) (pr:Pre scope pre fn (caps.map (·.1))) (iL:scope.kind= .function) (lg:∀x∈scope.names,x.2= .local->scope.names.lookup x.1=some .local)
  (hi:PI X tg iter wi) (hg:∀cl C s2 H2 fp,PG (eh X (own++caps.map (·.1)) scope pre fn cl C s2 H2 fp) tg g) (hc:∀cl C s2 H2 fp,PF (eh X (own++caps.map (·.1)) scope pre fn cl C s2 H2 fp) ifs tc) (he:∀cl C s2 H2 fp,PE (eh X (own++caps.map (·.1)) scope pre fn cl C s2 H2 fp) elt te)
  (qR:swapsWith (.ListComp elt [⟨tg,iter,ifs,0⟩] scope pos) (some (.Name y py)) oi.line X.env=pure true:=by rfl) (hs:∀x,foldedSetIterable iter X.env x=pure x:=by intro _;rfl) (hf:X.fn y=true\/X.env.scope.names.lookup y=some .local:=by first|exact .inl rfl|exact .inr rfl|assumption):
  PS X (.Assign [.Name y py] (.ListComp elt [⟨tg,iter,ifs,0⟩] scope pos) oi) (rC (p0 own.length caps wi g tc te) (cT i)):=by
 refine .mk ?_;intro pins s σ H D I h
 rw[exec_Assign_Name_used _ _ _ _ qR]
 refine aC (wpAny_standAt (aC (show wpAny _ X.A (comprehension _ scope X.env _ (newList []) false (eval iter X.env) (some (assign (.Name y py) X.env)) >>= λ_=>_) _ _ s from aC (gU (UC (use:=some (assign (.Name y py) X.env)) (Q':=λ_ s'=>SP X pins D .next s') km jr ko pr iL lg hi hg hc he hs I h λs5 C Dl H4 ys ⟨m5,wG⟩ nL nc le0 hC np inv q=>?_) (λ_ s' z=>aR (aR z)) λ_ _ z=>z))))
 refine(show wpAny _ X.A (assign (.Name y py) X.env (.ref Dl)) _ X.xe s5 from wpAny_assign_Name (Vm (v:=.ref Dl) (inv s5.heap ⟨rfl,λ_ _=>rfl⟩) hN hy hx rfl (λs6 I6 ⟨a,sb,ha⟩=>?_) hf))
 have nCa:C≠a:=by
  rcases ha with rfl|ha
  ·exact nL
  ·exact(nc y a ha).symm
 exact⟨m5,wG.sameBut sb nCa,λh7 sb7=>⟨_,_,I6.turned (t':=s6.toks) (it:=C) (λb o hb e=>(sb7.2 b hb).trans e) hC nL (.inr le0) nc np,q⟩⟩
theorem ou{X:Cx}{elt tg iter:Expr}{ifs:aa Expr}{scope:Scope}{pos:Pos}{own:aa Str}{caps:aa (Str×Nat)}{wi:TI}{g:TG}{tc:TT}{te:TE}
  (km:X.calm=true) (jr:∀x∈scope.names,x.2= .free->x.1∈caps.map (·.1)) (ko:∀p∈caps,scope.names.lookup p.1=some .free/\X.N[p.2]?=some p.1/\X.env.scope.names.lookup p.1=some .cell) (kZ:∀x∈scope.names,x.2≠.cell) (iL:scope.kind= .function) (lg:∀x∈scope.names,x.2= .local->scope.names.lookup x.1=some .local)
  (hi:PI X tg iter wi) (hg:∀cl C s2 H2 fp,PG (lW X (own++caps.map (·.1)) scope cl C s2 H2 fp) tg g) (hc:∀cl C s2 H2 fp,PF (lW X (own++caps.map (·.1)) scope cl C s2 H2 fp) ifs tc) (he:∀cl C s2 H2 fp,PE (lW X (own++caps.map (·.1)) scope cl C s2 H2 fp) elt te)
  (hs:∀x,foldedSetIterable iter X.env x=pure x:=by intro _;rfl):
  PE X (.ListComp elt [⟨tg,iter,ifs,0⟩] scope pos) (p0 own.length caps wi g tc te):=
 adS (pre:=λ_=>[]) (fn:=λ_=>false) km jr ko (Vz kZ iL) iL lg hi hg hc he hs
theorem uI{elt tg iter:Expr}{ifs:aa Expr}{scope:Scope}{pos oi py:Pos}{own:aa Str}{caps:aa (Str×Nat)}{wi:TI}{g:TG}{tc:TT}{te:TE}{y:Str}(hN:X.N.Nodup)(hy:X.N[i]?=some y)(hx:Loc X.env.scope y)
  (km:X.calm=true) (jr:∀x∈scope.names,x.2= .free->x.1∈caps.map (·.1)) (ko:∀p∈caps,scope.names.lookup p.1=some .free/\X.N[p.2]?=some p.1/\X.env.scope.names.lookup p.1=some .cell) (kZ:∀x∈scope.names,x.2≠.cell) (iL:scope.kind= .function) (lg:∀x∈scope.names,x.2= .local->scope.names.lookup x.1=some .local)
  (hi:PI X tg iter wi) (hg:∀cl C s2 H2 fp,PG (lW X (own++caps.map (·.1)) scope cl C s2 H2 fp) tg g) (hc:∀cl C s2 H2 fp,PF (lW X (own++caps.map (·.1)) scope cl C s2 H2 fp) ifs tc) (he:∀cl C s2 H2 fp,PE (lW X (own++caps.map (·.1)) scope cl C s2 H2 fp) elt te)
  (qR:swapsWith (.ListComp elt [⟨tg,iter,ifs,0⟩] scope pos) (some (.Name y py)) oi.line X.env=pure true:=by rfl) (hs:∀x,foldedSetIterable iter X.env x=pure x:=by intro _;rfl) (hf:X.fn y=true\/X.env.scope.names.lookup y=some .local:=by first|exact .inl rfl|exact .inr rfl|assumption):
  PS X (.Assign [.Name y py] (.ListComp elt [⟨tg,iter,ifs,0⟩] scope pos) oi) (rC (p0 own.length caps wi g tc te) (cT i)):=
 V_ (pre:=λ_=>[]) (fn:=λ_=>false) hN hy hx km jr ko (Vz kZ iL) iL lg hi hg hc he qR hs hf
noncomputable abbrev C_(X:Cx)(N:aa Str)(scope:Scope)(x0:Str)(cl:aa (Str×ah))(C:ah)(s2:ag)(H2:Hp)(fp:aa ah):Cx:=eh X N scope (λC=>[(x0,C+1)]) (λy=>y==x0) cl C s2 H2 fp
theorem ad4{elt tg iter:Expr}{ifs:aa Expr}{scope:Scope}{pos oi py:Pos}{x0:Str}{own:aa Str}{caps:aa (Str×Nat)}{wi:TI}{g:TG}{tc:TT}{te:TE}{y:Str}(hN:X.N.Nodup)(hy:X.N[i]?=some y)(hx:Loc X.env.scope y)
  (km:X.calm=true) (jr:∀x∈scope.names,x.2= .free->x.1∈caps.map (·.1)) (ko:∀p∈caps,scope.names.lookup p.1=some .free/\X.N[p.2]?=some p.1/\X.env.scope.names.lookup p.1=some .cell) (EJ:∀a cl,cellsFrom a scope.names cl=(x0,a)::cl) (EO:∀h,pushCells h scope.names=h.push {cls:=.type "cell",data:=.cell none}) (D3:∀x∈scope.names,x.2= .cell->x.1=x0) (nX:∀p∈caps,p.1≠x0) (iL:scope.kind= .function) (lg:∀x∈scope.names,x.2= .local->scope.names.lookup x.1=some .local)
  (hi:PI X tg iter wi) (hg:∀cl C s2 H2 fp,PG (C_ X (own++caps.map (·.1)) scope x0 cl C s2 H2 fp) tg g) (hc:∀cl C s2 H2 fp,PF (C_ X (own++caps.map (·.1)) scope x0 cl C s2 H2 fp) ifs tc) (he:∀cl C s2 H2 fp,PE (C_ X (own++caps.map (·.1)) scope x0 cl C s2 H2 fp) elt te)
  (qR:swapsWith (.ListComp elt [⟨tg,iter,ifs,0⟩] scope pos) (some (.Name y py)) oi.line X.env=pure true:=by rfl) (hs:∀x,foldedSetIterable iter X.env x=pure x:=by intro _;rfl) (hf:X.fn y=true\/X.env.scope.names.lookup y=some .local:=by first|exact .inl rfl|exact .inr rfl|assumption):
  PS X (.Assign [.Name y py] (.ListComp elt [⟨tg,iter,ifs,0⟩] scope pos) oi) (rC (p0 own.length caps wi g tc te) (cT i)):=
 V_ hN hy hx km jr ko (adY EJ EO D3 λx hx=>by obtain⟨p,hp,e⟩:=u4.mp hx;rw[<-e];exact nX p hp) iL lg hi hg hc he qR hs hf
open PySem PySem.Spec PyProof.Rows
section
variable {o:Expr} {p:Pos}
theorem a_{k:Str}(hu:X.A.units+1<cLine)(ho:PE X o td):PE X (.Subscript o (.Constant (.str k) j p) pos) (ej td (tC (.str k))):=uJ hu ho aJ (λ_ _=>rfl)
theorem lB{k:Int}(ho:PE X o td):PE X (.Subscript o (.Constant (.int k) j p) pos) (e7 (dC X.K) td (tC (.int k))):=cv dI ho aF (λ_ _=>rfl)
theorem bG{k:Nat}{e:Expr}(F:cJ X.prog X.w X.K X.mg X.base (cI P w) k f fd ps sp)(hr:bB k X.A)(hm:X.mg x=some (Value.ref f))(hk:PySem.W.keepIn X.K (Value.ref f)=true)(hb:gA X.K fd ps [])(ha:PA X (e::es) t)
  (hg:Gl X x:=by rfl) (h1:(x==("__debug__":Str))=false:=by decide) (h2:starEach (e::es) X.env=(false,eval e X.env)::starEach es X.env:=by rfl) (h3:(backTo pos (starEach es X.env)).any (·.1)=false:=by rfl):PE X (.Call (.Name x p) (e::es) [] pos) (uU sp [] E0 t):=kI F hr hg hm hk hb .nil cO ha h1 h2 h3
theorem aZ{e:Expr}(i:Nat)(hN:X.N.Nodup)(he:PE X e te)(hi:X.N[i]?=some x:=by rfl)(hx:Loc X.env.scope x:=by exact Or.inl rfl)(hs:swapsWith e (some (.Name x p)) pos.line X.env=pure false:=by rfl)(hf:X.fn x=true\/X.env.scope.names.lookup x=some .local:=by first|exact .inl rfl|exact .inr rfl|assumption):PS X (.Assign [.Name x p] e pos) (rC te (cT i)):=Oh hN hi hx he hs hf
end
end L2
namespace Fb
open PySem L2
noncomputable def top(i:Nat):Stmt:=PySem.Challenge.pw_fairbook_k10_book.main.body.getD i (.Pass ⟨0,0,0,0⟩)
noncomputable abbrev xT:Stmt:=top 11
noncomputable abbrev x8:Stmt:=top 12
noncomputable abbrev xW:Stmt:=top 13
noncomputable abbrev xU:Stmt:=top 14
noncomputable abbrev xV:Stmt:=top 15
noncomputable abbrev A9:Stmt:=fJ (top 16) 0
noncomputable abbrev BK:Stmt:=top 17
noncomputable abbrev Bn:Stmt:=fJ (top 18) 0
noncomputable abbrev BM:Stmt:=fJ (top 18) 1
noncomputable abbrev Bo:Stmt:=fJ (top 20) 0
noncomputable abbrev AJ:Stmt:=fJ (top 20) 1
noncomputable abbrev BL:Stmt:=fJ (top 20) 2
noncomputable abbrev AI:Stmt:=top 21
noncomputable abbrev LJ:Stmt:=top 22
noncomputable abbrev MY:Stmt:=fJ (top 23) 0
noncomputable abbrev Ny:Stmt:=fJ (top 23) 1
noncomputable abbrev Of:Stmt:=fJ (top 23) 2
noncomputable abbrev LA:Stmt:=fJ (top 23) 3
noncomputable abbrev OA:Stmt:=fJ (top 23) 4
noncomputable abbrev Ly:Stmt:=fJ (top 23) 5
noncomputable abbrev NZ:Stmt:=fJ (top 23) 6
noncomputable abbrev MQ:Stmt:=fJ (top 23) 7
noncomputable abbrev UJ:Stmt:=fJ (top 23) 8
noncomputable abbrev MR:Stmt:=fJ (top 23) 9
noncomputable abbrev NN:Stmt:=fJ (top 23) 10
noncomputable abbrev OD:Stmt:=fJ (top 23) 11
noncomputable abbrev LI:Stmt:=fJ (top 23) 12
noncomputable abbrev Nx:Stmt:=fJ (top 23) 13
noncomputable abbrev Nz:Stmt:=fJ (top 23) 14
noncomputable abbrev N0:Stmt:=fJ (top 23) 15
noncomputable abbrev OB:Stmt:=top 26
noncomputable abbrev N8:Stmt:=top 27
noncomputable abbrev N7:Stmt:=top 28
noncomputable abbrev LD:Stmt:=top 29
noncomputable abbrev Og:Stmt:=top 30
noncomputable abbrev NA:Stmt:=top 31
noncomputable abbrev LH:Stmt:=top 32
noncomputable abbrev LF:Stmt:=top 33
noncomputable abbrev N1:Stmt:=top 34
noncomputable abbrev Lx:Stmt:=top 36
noncomputable abbrev MH:Stmt:=top 37
noncomputable abbrev Nv:Stmt:=top 38
noncomputable abbrev MC:Stmt:=top 39
noncomputable abbrev N3:Stmt:=top 40
noncomputable abbrev Oz:Stmt:=top 41
noncomputable abbrev Nw:Stmt:=top 42
noncomputable abbrev N2:Stmt:=top 43
noncomputable abbrev NL:Stmt:=top 45
noncomputable abbrev N6:Stmt:=top 46
noncomputable abbrev N5:Stmt:=top 47
noncomputable abbrev MW:Stmt:=top 48
noncomputable abbrev NB:Stmt:=top 49
noncomputable abbrev N4:Stmt:=top 50
noncomputable abbrev NC:Stmt:=top 51
noncomputable abbrev NH:Stmt:=top 52
noncomputable abbrev ME:Stmt:=top 53
noncomputable abbrev NI:Stmt:=top 54
noncomputable abbrev NG:Stmt:=top 55
noncomputable abbrev NF:Stmt:=top 56
noncomputable abbrev MG:Stmt:=top 57
noncomputable abbrev MP:Stmt:=top 58
noncomputable abbrev MO:Stmt:=top 59
noncomputable abbrev MN:Stmt:=top 60
noncomputable abbrev MB:Stmt:=top 61
noncomputable abbrev Mx:Stmt:=top 62
noncomputable abbrev NM:Stmt:=top 63
noncomputable abbrev MF:Stmt:=top 64
noncomputable abbrev NK:Stmt:=top 65
noncomputable abbrev NJ:Stmt:=top 66
noncomputable abbrev MX:Stmt:=top 67
noncomputable abbrev OC:Stmt:=top 68
noncomputable abbrev ND:Stmt:=top 69
noncomputable abbrev Lz:Stmt:=top 70
open PySem L2
structure Ent where
 ea:Addr
 oa:Addr
 ra:Addr
 num:Int
 owner:Int
 au:Bool
 ar:Int
 many:Int
 shows:Option Int
 left:Int
 shown:Int
 place:Int
structure Bk where
 aU:List Ent
 aV:List Ent
 aG:Int
 places:Int
 aY:Bool
 last:Option Int
 bE:Int
noncomputable def Ent.k1(e:Ent):Int:=if e.au=true then-e.ar else e.ar
noncomputable def klt(a b c d:Int):Prop:=a<c\/(a=c/\b<d)
noncomputable instance(a b c d:Int):Decidable (klt a b c d):=by unfold klt;exact inferInstance
theorem ach(a b c d:Int):HT.lexLt [a,b] [c,d]=decide (klt a b c d):=by
 rw[HT.q_,HT.q_,HT.RY,uX,yP]
 show _↔(a<c\/(a=c/\b<d))
 by_cases h:a=c
 ·rw[aA h]
  by_cases h2:b=d
  ·rw[aA h2]
   exact⟨λz=>absurd z cb,λz=>by omega⟩
  ·rw[ax h2,yP]
   omega
 ·rw[ax h,yP]
  omega
noncomputable def Ent.lt(x y:Ent):Prop:=klt x.k1 x.place y.k1 y.place
noncomputable instance(x y:Ent):Decidable (x.lt y):=by unfold Ent.lt;exact inferInstance
theorem Ent.lt_trans{x y z:Ent}(h:x.lt y)(g:y.lt z):x.lt z:=by
 unfold Ent.lt klt at*
 omega
noncomputable def fi(e:Ent):aa Ent->Nat
 | []=>0
 |x::r=>if x.lt e then fi e r+1 else 0
noncomputable def g6(e:Ent):aa Ent->aa Ent
 | []=>[e]
 |x::r=>if x.lt e then x::g6 e r else e::x::r
theorem Bq(e:Ent):∀xs:aa Ent,fi e xs<=xs.length
 | []=>bu _
 |x::r=>by
  unfold fi
  split
  ·exact Nat.succ_le_succ (Bq e r)
  ·exact dD _
theorem WV(e:Ent):∀xs:aa Ent,g6 e xs=xs.take (fi e xs)++e::xs.drop (fi e xs)
 | []=>rfl
 |x::r=>by
  unfold g6 fi
  split
  ·rw[List.take_succ_cons,List.drop_succ_cons,List.cons_append,WV e r]
  ·rfl
noncomputable abbrev eN(xs:aa Ent):Prop:=xs.Pairwise Ent.lt
theorem MI(e:Ent):∀{xs:aa Ent},eN xs->∀(i:Nat) (x:Ent),xs[i]?=some x->(x.lt e↔i<fi e xs)
 | [],_,i,x,h=>by simp at h
 |y::r,hs,i,x,h=>by
  obtain⟨h1,h2⟩:=List.pairwise_cons.mp hs
  unfold fi
  cases i with
  |zero=>
   have e1:y=x:=by simpa using h
   subst e1
   split
   ·rename_i hh
    exact⟨λ_=>yL _,λ_=>hh⟩
   ·rename_i hh
    exact⟨λz=>absurd z hh,λz=>absurd z (kN _)⟩
  |succ i=>
   have e1:r[i]?=some x:=by simpa using h
   split
   ·rw[MI e h2 i x e1]
    exact⟨λz=>Nat.succ_lt_succ z,λz=>Nat.lt_of_succ_lt_succ z⟩
   ·rename_i hh
    exact⟨λz=>absurd (Ent.lt_trans (h1 x (d6 e1)) z) hh,λz=>absurd z (B_ _)⟩
theorem uE{e x:Ent}:∀{xs:aa Ent},x∈g6 e xs↔x=e\/x∈xs
 | []=>by simp[g6]
 |y::r=>by
  unfold g6
  split
  ·rw[hZ,uE (xs:=r),hZ]
   constructor
   ·rintro(h|h|h)
    ·exact .inr (.inl h)
    ·exact .inl h
    ·exact .inr (.inr h)
   ·rintro(h|h|h)
    ·exact .inr (.inl h)
    ·exact .inl h
    ·exact .inr (.inr h)
  ·rw[hZ]
theorem zev{e:Ent}:∀{xs:aa Ent},eN xs->(∀x∈xs,x.place<e.place)->eN (g6 e xs)
 | [],_,_=>by
  unfold g6
  exact List.pairwise_cons.mpr ⟨λ_ h=>absurd h (by simp),List.Pairwise.nil⟩
 |y::r,hs,hp=>by
  obtain⟨h1,h2⟩:=List.pairwise_cons.mp hs
  unfold g6
  split
  ·rename_i hh
   refine List.pairwise_cons.mpr ⟨λz hz=>?_,zev h2 λx hx=>hp x (cE _ hx)⟩
   rcases uE.mp hz with rfl|hz
   ·exact hh
   ·exact h1 z hz
  ·rename_i hh
   have Q8:=hp y bA
   have ey:e.lt y:=by
    unfold Ent.lt klt at hh ⊢
    omega
   refine List.pairwise_cons.mpr ⟨λz hz=>?_,hs⟩
   rcases hZ.mp hz with rfl|hz
   ·exact ey
   ·exact Ent.lt_trans ey (h1 z hz)
theorem M8(e:Ent):∀xs:aa Ent,(g6 e xs).Perm (e::xs)
 | []=>qf _
 |y::r=>by
  unfold g6
  split
  ·exact(List.Perm.cons y (M8 e r)).trans (List.Perm.swap e y r)
  ·exact qf _
noncomputable def cp(shows:ae Int)(left:Int):Int:=match shows with
 |none=>left
 |some k=>if left<k then left else k
noncomputable def aH(b:ai):Str:=if b=true then "buy" else "sell"
end Fb
variable {xs r:aa Fb.Ent} {e y z e':Fb.Ent} {B B' B1 B2 oW:Fb.Bk}
namespace Fb
open PySem L2
section
theorem rO(hm:X.mg x=some (.ref a))(hg:Gl X x:=by rfl)(hd:(x==("__debug__":Str))=false:=by decide):PE X (.Name x pos) (tC (.ref a)):=Oa (v:=.ref a) hg hm rfl hd
theorem BA{i:Int}{t:Tok}(hm:X.mg x=some (.int i t))(hg:Gl X x:=by rfl)(hd:(x==("__debug__":Str))=false:=by decide):PE X (.Name x pos) (tC (.int i)):=Oa (v:=.int i) hg hm ⟨t,rfl⟩ hd
end
structure fP(K:W.Frag)(mg:Str->Option Value)(bo nt nn be:Addr):Prop where
 pH:mg "BadOrder"=some (.ref bo)
 Sn:mg "NotThere"=some (.ref nt)
 Ak:mg "NotNow"=some (.ref nn)
 acQ:mg "BookError"=some (.ref be)
 ot:iD K bo
 Mp:iD K nt
 xQ:iD K nn
 xBE:iD K be
structure jJ(K:W.Frag)(mg:Str->Option Value)(bW gw:Addr):Prop where
 mgS:mg "SIDES"=some (.ref bW)
 mgW:mg "WAYS"=some (.ref gw)
 sqS:∀H,aM K H bW [.str "buy",.str "sell"]
 sqW:∀H,aM K H gw [.str "rest",.str "now",.str "whole"]
 gp:∃t,mg "GREATEST_PRICE"=some (.int 1000000000 t)
 mw:∃t,mg "MOST_WANTED"=some (.int 10000 t)
noncomputable def oV:ae Int->V
 |none=>.aE
 |some i=>.int i
noncomputable def oC(x:Str):ai:=wX (.str x) [.str "buy",.str "sell"]
noncomputable def uS(x:Str):ai:=wX (.str x) [.str "rest",.str "now",.str "whole"]
section
variable {bW:ah}
theorem bw{P:aa Str}{sc:Scope}(h1:sc.kind= .function:=by rfl)(h2:sc.isCoroutine=false:=by rfl)(h3:sc.isGenerator=false:=by rfl)(h4:N.Nodup:=by decide+kernel)(h5:N.take P.length=P:=by rfl)
  (h6:∀x∈P,sc.names.lookup x=some .local\/sc.names.lookup x=some .cell:=by decide+kernel) (h7:∀y∈sc.names,y.2≠.free:=by decide+kernel):bc N P sc:=⟨h1,h2,h3,h4,h5,h6,h7⟩
theorem aeF:bc ["side"] ["side"] (aX xT):=bw
inductive afB(bo:Addr)(vs:List V)(H:Hp)(Q:VK)(E:XK):Prop
 |mk (x:Str) (_:vs= [.str x]) (_:(oC x=true->Q .aE H)) (_:(oC x=false->(reprText x).length<=2000/\∀e,E (.ref bo) e H))
theorem zfH(F:dq K "check_side" "check_side" xT f fd)(T:fP K mg bo nt nn be)(O:jJ K mg bW gw):cJ P w K mg base (cI P w) 1 f fd ["side"] (afB bo):=by
 refine F.rh aeF (λvs H Q E h=>?_) (λcF A outer s H vs Q E hr h=>?_)
 ·obtain⟨x,rfl,_⟩:=h
  rfl
 ·obtain⟨x,rfl,h1,h2⟩:=h
  refine⟨_,aD (bK (bC Ut (pv 0) (rO O.mgS) (by with_unfolding_all rfl))
   (aD (lR rfl rfl T.pH T.ot (lT λ_ _ _ h=>h) (av (pX (.cons aJ (.cons (We (pv 0)) .nil)) (by decide)) ay))) bZ),?_⟩
  refine(rX rfl ⟨bW,rX rfl ⟨.inr (O.sqS _),rfl,rfl,rX rfl ?_⟩⟩)
  show if(!oC x)=true then _ else _
  cases e:oC x with
  |true=>exact bF (h1 e)
  |false=>
   obtain⟨h2,h3⟩:=h2 e
   exact bL (rX rfl ⟨by decide+kernel,rX rfl ⟨x,rfl,h2,rX rfl ⟨h2,λy hy=>⟨by rw[a7];show 1<=16777216;decide,h3⟩⟩⟩⟩)
theorem aeG:bc ["way"] ["way"] (aX x8):=bw
inductive afC(bo:Addr)(vs:List V)(H:Hp)(Q:VK)(E:XK):Prop
 |mk (x:Str) (_:vs= [.str x]) (_:(uS x=true->Q .aE H)) (_:(uS x=false->(reprText x).length<=2000/\∀e,E (.ref bo) e H))
theorem zgx(F:dq K "check_way" "check_way" x8 f fd)(T:fP K mg bo nt nn be)(O:jJ K mg bW gw):cJ P w K mg base (cI P w) 1 f fd ["way"] (afC bo):=by
 refine F.rh aeG (λvs H Q E h=>?_) (λcF A outer s H vs Q E hr h=>?_)
 ·obtain⟨x,rfl,_⟩:=h
  rfl
 ·obtain⟨x,rfl,h1,h2⟩:=h
  refine⟨_,aD (bK (bC Ut (pv 0) (rO O.mgW) (by with_unfolding_all rfl))
   (aD (lR rfl rfl T.pH T.ot (lT λ_ _ _ h=>h) (av (pX (.cons aJ (.cons (We (pv 0)) .nil)) (by decide)) ay))) bZ),?_⟩
  refine(rX rfl ⟨gw,rX rfl ⟨.inr (O.sqW _),rfl,rfl,rX rfl ?_⟩⟩)
  show if(!uS x)=true then _ else _
  cases e:uS x with
  |true=>exact bF (h1 e)
  |false=>
   obtain⟨h2,h3⟩:=h2 e
   exact bL (rX rfl ⟨by decide+kernel,rX rfl ⟨x,rfl,h2,rX rfl ⟨h2,λy hy=>⟨by rw[a7];show 1<=16777216;decide,h3⟩⟩⟩⟩)
noncomputable def fI(p:ae Int)(way:Str):ai:=match p with
 |none=>!decide (way="rest")
 |some p=>decide (1<=p)&&decide (p<=1000000000)
theorem aeE:bc ["price","way"] ["price","way"] (aX xW):=bw
inductive afz(bo:Addr)(vs:List V)(H:Hp)(Q:VK)(E:XK):Prop
 |mk (p:Option Int) (way:Str) (_:vs= [oV p,.str way]) (_:(∀i,p=some i->i.natAbs<10^30)) (_:(fI p way=true->Q .aE H)) (_:(fI p way=false->∀e,E (.ref bo) e H))
theorem kG:([V.str Str.empty]:aa V).length<=sizeLine:=by rw[a7];decide
theorem zeI(F:dq K "check_price" "check_price" xW f fd)(T:fP K mg bo nt nn be)(O:jJ K mg bW gw):cJ P w K mg base (cI P w) 1 f fd ["price","way"] (afz bo):=by
 refine F.rh aeE (λvs H Q E h=>?_) (λcF A outer s H vs Q E hr h=>?_)
 ·obtain⟨p,way,rfl,_⟩:=h
  rfl
 ·obtain⟨p,way,rfl,hb,h1,h2⟩:=h
  obtain⟨tg,xg⟩:=O.gp
  refine⟨_,az (bK (iR (gB (jA (pv 0))) (jD (bC cQ (pv 1) aJ (a9 _)))).pt
    (aD (lR rfl rfl T.pH T.ot (lT λ_ _ _ h=>h) (av aJ ay))) bZ)
   (aD (bK (iR (gB (rP (pv 0))) (jD (jE (bC Aw (pv 0) aF (a9 _)) (jz (bC oP (pv 0) (BA xg) (a9 _)))).pt)).pt
    (aD (lR rfl rfl T.pH T.ot (lT λ_ _ _ h=>h) (av (pX (.cons aJ (.cons (oF (BA xg)) (.cons aJ (.cons (oF (pv 0)) .nil)))) (by decide)) ay))) bZ)),?_⟩
  cases p with
  |none=>
   refine(rX rfl (rX rfl (bL (rX rfl ⟨rfl,rX rfl ?_⟩))))
   refine kC (λe=>?_) (λe=>?_)
   ·have e':fI none way=false:=by
     have:=eB e
     simp only[V.str.injEq]at this
     simp[fI,this]
    exact⟨kG,h2 e'⟩
   ·have e':fI none way=true:=by
     have:¬way="rest":=λz=>e (by rw[z];exact bO rfl)
     simp[fI,this]
    exact(rX rfl (rX rfl (bF (bF (h1 e')))))
  |some i=>
   have hi:=hb i rfl
   refine(rX rfl (rX rfl (bF (bF ?_))))
   refine(rX rfl (rX rfl (bL (rX rfl (r2 rfl rfl (rX rfl ?_))))))
   have bad:fI (some i) way=false->_:=λe=>h2 e
   refine kC (λe=>bL ?_) (λe=>(rX rfl (r2 rfl rfl (rX rfl (kC (λe2=>?_) (λe2=>?_))))))
   ·have e':=eB e
    have q:fI (some i) way=false:=by simp[fI];omega
    exact(rX rfl ⟨by decide+kernel,rX rfl ⟨by decide,λy1 ig=>(rX rfl ⟨ig,rX rfl ⟨by decide+kernel,rX rfl (rX rfl ⟨hi,λy2 gP=>(rX rfl ⟨gP,λy hy=>⟨kG,h2 q⟩⟩)⟩)⟩⟩)⟩⟩)
   ·have e':=eB e2
    have q:fI (some i) way=false:=by simp[fI];omega
    exact(rX rfl ⟨by decide+kernel,rX rfl ⟨by decide,λy1 ig=>(rX rfl ⟨ig,rX rfl ⟨by decide+kernel,rX rfl (rX rfl ⟨hi,λy2 gP=>(rX rfl ⟨gP,λy hy=>⟨kG,h2 q⟩⟩)⟩)⟩⟩)⟩⟩)
   ·have e1:¬i<1:=λz=>e (bO z)
    have e3:¬(1000000000:Int)<i:=λz=>e2 (bO z)
    exact h1 (by simp[fI];omega)
noncomputable def fL(m:Int):ai:=decide (1<=m)&&decide (m<=10000)
theorem aeD:bc ["many"] ["many"] (aX xU):=bw
inductive TH(bo:Addr)(vs:List V)(H:Hp)(Q:VK)(E:XK):Prop
 |mk (m:Int) (_:vs= [.int m]) (_:m.natAbs<10^30) (_:(fL m=true->Q .aE H)) (_:(fL m=false->∀e,E (.ref bo) e H))
theorem Uv(F:dq K "check_many" "check_many" xU f fd)(T:fP K mg bo nt nn be)(O:jJ K mg bW gw):cJ P w K mg base (cI P w) 1 f fd ["many"] (TH bo):=by
 refine F.rh aeD (λvs H Q E h=>?_) (λcF A outer s H vs Q E hr h=>?_)
 ·obtain⟨m,rfl,_⟩:=h
  rfl
 ·obtain⟨m,rfl,hi,h1,h2⟩:=h
  obtain⟨tg,xg⟩:=O.mw
  refine⟨_,aD (bK (jE (bC Aw (pv 0) aF (a9 _)) (jz (bC oP (pv 0) (BA xg) (a9 _)))).pt
    (aD (lR rfl rfl T.pH T.ot (lT λ_ _ _ h=>h) (av (pX (.cons aJ (.cons (oF (BA xg)) (.cons aJ (.cons (oF (pv 0)) .nil)))) (by decide)) ay))) bZ),?_⟩
  refine(rX rfl (r2 rfl rfl (rX rfl ?_)))
  refine kC (λe=>bL ?_) (λe=>(rX rfl (r2 rfl rfl (rX rfl (kC (λe2=>?_) (λe2=>?_))))))
  ·have e':=eB e
   have q:fL m=false:=by simp[fL];omega
   exact(rX rfl ⟨by decide+kernel,rX rfl ⟨by decide,λy1 ig=>(rX rfl ⟨ig,rX rfl ⟨by decide+kernel,rX rfl (rX rfl ⟨hi,λy2 gP=>(rX rfl ⟨gP,λy hy=>⟨kG,h2 q⟩⟩)⟩)⟩⟩)⟩⟩)
  ·have e':=eB e2
   have q:fL m=false:=by simp[fL];omega
   exact(rX rfl ⟨by decide+kernel,rX rfl ⟨by decide,λy1 ig=>(rX rfl ⟨ig,rX rfl ⟨by decide+kernel,rX rfl (rX rfl ⟨hi,λy2 gP=>(rX rfl ⟨gP,λy hy=>⟨kG,h2 q⟩⟩)⟩)⟩⟩)⟩⟩)
  ·have e1:¬m<1:=λz=>e (bO z)
   have e3:¬(10000:Int)<m:=λz=>e2 (bO z)
   exact h1 (by simp[fL];omega)
noncomputable def lQ(p:ae Int)(m:Int)(way:Str):ai:=match p with
 |none=>true
 |some p=>decide (way="rest")&&(decide (1<=p)&&decide (p<=m))
theorem aeI:bc ["shows","many","way"] ["shows","many","way"] (aX xV):=bw
inductive afA(bo:Addr)(vs:List V)(H:Hp)(Q:VK)(E:XK):Prop
 |mk (p:Option Int) (m:Int) (way:Str) (_:vs= [oV p,.int m,.str way]) (_:(∀i,p=some i->i.natAbs<10^30)) (_:m.natAbs<10^30) (_:way.length<=2000) (_:(lQ p m way=true->Q .aE H)) (_:(lQ p m way=false->∀e,E (.ref bo) e H))
theorem zeH(F:dq K "check_shows" "check_shows" xV f fd)(T:fP K mg bo nt nn be):cJ P w K mg base (cI P w) 1 f fd ["shows","many","way"] (afA bo):=by
 refine F.rh aeI (λvs H Q E h=>?_) (λcF A outer s H vs Q E hr h=>?_)
 ·obtain⟨p,m,way,rfl,_⟩:=h
  rfl
 ·obtain⟨p,m,way,rfl,hb,hm,hw,h1,h2⟩:=h
  refine⟨_,az (bK (iR (gB (rP (pv 0))) (jD (bC hX (pv 2) aJ (a9 _)))).pt
    (aD (lR rfl rfl T.pH T.ot (lT λ_ _ _ h=>h) (av (pX (.cons aJ (.cons (Wd (pv 2)) (.cons aJ (.cons (oF (pv 0)) .nil)))) (by decide)) ay))) bZ)
   (aD (bK (iR (gB (rP (pv 0))) (jD (jE (bC Aw (pv 0) aF (a9 _)) (jz (bC oP (pv 0) (pv 1) (a9 _)))).pt)).pt
    (aD (lR rfl rfl T.pH T.ot (lT λ_ _ _ h=>h) (av (pX (.cons aJ (.cons (oF (pv 1)) (.cons aJ (.cons (oF (pv 1)) (.cons aJ (.cons (oF (pv 0)) .nil)))))) (by decide)) ay))) bZ)),?_⟩
  cases p with
  |none=>exact⟨_,rfl,_,rfl,bF (bF ⟨_,rfl,_,rfl,bF (bF (h1 rfl))⟩)⟩
  |some i=>
   have hi:=hb i rfl
   refine(rX rfl (rX rfl (bL (rX rfl ⟨rfl,rX rfl ?_⟩))))
   by_cases hr:way="rest"
   ·subst hr
    refine Fh rfl ?_
    refine(rX rfl (rX rfl (bL (rX rfl (r2 rfl rfl (rX rfl ?_))))))
    have key:∀Z:Prop,(lQ (some i) m "rest"=false->Z)->(¬(1<=i/\i<=m)->Z):=λZ k h=>k (by simp[lQ];omega)
    refine kC (λe=>bL ?_) (λe=>(rX rfl (rX rfl (r2 rfl rfl (rX rfl (kC (λe2=>?_) (λe2=>?_)))))))
    ·have e':=eB e
     exact(rX rfl ⟨by decide+kernel,rX rfl (rX rfl ⟨hm,λy1 ig=>(rX rfl ⟨ig,rX rfl ⟨by decide+kernel,rX rfl (rX rfl ⟨hm,λy2 gP=>(rX rfl ⟨gP,rX rfl ⟨by decide+kernel,rX rfl (rX rfl ⟨hi,λy3 wV=>(rX rfl ⟨wV,λy hy=>⟨kG,key _ h2 (by omega)⟩⟩)⟩)⟩⟩)⟩)⟩⟩)⟩)⟩)
    ·have e':=eB e2
     exact(rX rfl ⟨by decide+kernel,rX rfl (rX rfl ⟨hm,λy1 ig=>(rX rfl ⟨ig,rX rfl ⟨by decide+kernel,rX rfl (rX rfl ⟨hm,λy2 gP=>(rX rfl ⟨gP,rX rfl ⟨by decide+kernel,rX rfl (rX rfl ⟨hi,λy3 wV=>(rX rfl ⟨wV,λy hy=>⟨kG,key _ h2 (by omega)⟩⟩)⟩)⟩⟩)⟩)⟩⟩)⟩)⟩)
    ·have e1:¬i<1:=λz=>e (bO z)
     have e3:¬m<i:=λz=>e2 (bO z)
     exact h1 (by simp[lQ];omega)
   ·have q:lQ (some i) m way=false:=by simp[lQ,hr]
    have d:(!decide (V.str way=V.str ("rest":Str)))=true:=by simp[hr]
    rw[d]
    exact bL (rX rfl ⟨by decide+kernel,rX rfl (rX rfl ⟨hw,rX rfl ⟨hw,rX rfl ⟨by decide+kernel,rX rfl (rX rfl ⟨hi,λy2 gP=>(rX rfl ⟨gP,λy hy=>⟨kG,h2 q⟩⟩)⟩)⟩⟩⟩)⟩)
end
open PySem L2
noncomputable abbrev fh(owner:Int)(side:Str)(ar:ae Int)(many:Int)(shows:ae Int)(way:Str)(num:V):aa (Str×V):=
 [("owner",.int owner),("side",.str side),("price",oV ar),("many",.int many),("shows",oV shows),("way",.str way),("number",num)]
noncomputable abbrev mS(c:Int):aa (Str×V):=[("came",.int c)]
noncomputable abbrev cY(oa:ah)(left shown:Int)(rk:V):aa (Str×V):=[("order",.ref oa),("remaining",.int left),("showing",.int shown),("rank",rk)]
noncomputable abbrev nh(nb ds de:ah)(places:Int)(aY:ai)(last:ae Int)(bE:Int):aa (Str×V):=
 [("numbering",.ref nb),("sides",.ref ds),("entries",.ref de),("places",.int places),("calling",.bl aY),("last_price",oV last),("traded",.int bE)]
structure Cs where
 O:Addr
 N:Addr
 E:Addr
 B:Addr
structure bR(K:W.Frag)(mg:Str->Option Value)(c:Cs):Prop where
 cN:fE K c.O
 yY:fE K c.N
 bM:fE K c.E
 bS:fE K c.B
 mgO:mg "Order"=some (.ref c.O)
 mgN:mg "Numbering"=some (.ref c.N)
 mgE:mg "Entry"=some (.ref c.E)
 mgB:mg "Book"=some (.ref c.B)
 o1:cz K c.O "owner"
 o2:cz K c.O "side"
 o3:cz K c.O "price"
 o4:cz K c.O "many"
 o5:cz K c.O "shows"
 o6:cz K c.O "way"
 o7:cz K c.O "number"
 n1:cz K c.N "came"
 e1:cz K c.E "order"
 e2:cz K c.E "remaining"
 e3:cz K c.E "showing"
 e4:cz K c.E "rank"
 b1:cz K c.B "numbering"
 b2:cz K c.B "sides"
 b3:cz K c.B "entries"
 b4:cz K c.B "places"
 b5:cz K c.B "calling"
 b6:cz K c.B "last_price"
 b7:cz K c.B "traded"
 min:mg "min"=none
 len:mg "len"=none
 list:mg "list"=none
theorem BU(k:Str){D:ah}{fs gs:aa (Str×V)}(h:fs.lookup k≠gs.lookup k):HO.ins C dx fs≠HO.ins D dy gs:=λz=>by
 cases z
 exact h rfl
noncomputable def dN(side:Str)(ar:ae Int)(many:Int)(shows:ae Int)(way:Str):ai:=oC side&&(uS way&&(fI ar way&&(fL many&&lQ shows many way)))
structure Small(side:Str)(ar:Option Int)(many:Int)(shows:Option Int)(way:Str):Prop where
 s:(reprText side).length<=2000
 w:(reprText way).length<=2000
 w2:way.length<=2000
 p:∀i,ar=some i->i.natAbs<10^30
 m:many.natAbs<10^30
 h:∀i,shows=some i->i.natAbs<10^30
section
variable {bW:ah} {c:Cs}
theorem ae1:bc ["self","owner","side","price","many","shows","way"] ["self","owner","side","price","many","shows","way"] (aX A9):=bw
inductive TK(bo:Addr)(c:Cs)(vs:List V)(H:Hp)(Q:VK)(E:XK):Prop
 |mk (p dx:Addr) (owner:Int) (side:Str) (ar:Option Int) (many:Int) (shows:Option Int) (way:Str) (_:vs= [.ref p,.int owner,.str side,oV ar,.int many,oV shows,.str way]) (_:H p=some (.ins c.O dx [])) (_:Small side ar many shows way) (_:(dN side ar many shows way=true->Q .aE (upd H p (.ins c.O dx (fh owner side ar many shows way .aE))))) (_:(dN side ar many shows way=false->∀e,E (.ref bo) e H))
theorem adz{f1 f2 f3 f4 f5:ah}{cK dG gY kX mh:FuncData}(F:dq K "__init__" "Order.__init__" A9 f fd)(T:fP K mg bo nt nn be)(O:jJ K mg bW gw)(C:bR K mg c)
  (F1:dq K "check_side" "check_side" xT f1 cK) (b1:gA K cK ["side"] []) (m1:mg "check_side"=some (.ref f1))
  (F2:dq K "check_way" "check_way" x8 f2 dG) (b2:gA K dG ["way"] []) (m2:mg "check_way"=some (.ref f2))
  (F3:dq K "check_price" "check_price" xW f3 gY) (b3:gA K gY ["price","way"] []) (m3:mg "check_price"=some (.ref f3))
  (F4:dq K "check_many" "check_many" xU f4 kX) (b4:gA K kX ["many"] []) (m4:mg "check_many"=some (.ref f4))
  (F5:dq K "check_shows" "check_shows" xV f5 mh) (b5:gA K mh ["shows","many","way"] []) (m5:mg "check_shows"=some (.ref f5)):
  cJ P w K mg base (cI P w) 2 f fd ["self","owner","side","price","many","shows","way"] (TK bo c):=by
 have G1:cJ P w K mg base (cI P w) 1 f1 cK _ _:=zfH F1 T O
 have G2:cJ P w K mg base (cI P w) 1 f2 dG _ _:=zgx F2 T O
 have G3:cJ P w K mg base (cI P w) 1 f3 gY _ _:=zeI F3 T O
 have G4:cJ P w K mg base (cI P w) 1 f4 kX _ _:=Uv F4 T O
 have G5:cJ P w K mg base (cI P w) 1 f5 mh _ _:=zeH F5 T
 refine F.ri ae1 λ_ _ _ _ H _ _ E hr h=>?_
 obtain⟨p,dx,owner,side,ar,many,shows,way,rfl,hp,sm,h1,h2⟩:=h
 refine⟨_,az (cP (kI G1 hr rfl m1 F1.kp b1 .nil (oO λ_ _ _ h=>h) (av (pv 2) ay)))
  (az (cP (kI G2 hr rfl m2 F2.kp b2 .nil (oO λ_ _ _ h=>h) (av (pv 6) ay)))
  (az (cP (kI G3 hr rfl m3 F3.kp b3 .nil (oO λ_ _ _ h=>h) (av (pv 3) (av (pv 6) ay))))
  (az (cP (kI G4 hr rfl m4 F4.kp b4 .nil (oO λ_ _ _ h=>h) (av (pv 4) ay)))
  (az (cP (kI G5 hr rfl m5 F5.kp b5 .nil (oO λ_ _ _ h=>h) (av (pv 5) (av (pv 4) (av (pv 6) ay)))))
  (az (dW (pv 0) (pv 1) rfl) (az (dW (pv 0) (pv 2) rfl) (az (dW (pv 0) (pv 3) rfl) (az (dW (pv 0) (pv 4) rfl) (az (dW (pv 0) (pv 5) rfl)
  (az (dW (pv 0) (pv 6) rfl) (aD (dW (pv 0) g_ rfl)))))))))))),?_⟩
 have bad:∀{b:ai},b=false->(b=false->dN side ar many shows way=false)->∀e,E (.ref bo) e H:=λhb hg=>h2 (hg hb)
 refine(rX rfl ⟨side,rfl,λg1=>?_,λg1=>⟨sm.s,h2 (by simp[dN,g1])⟩⟩)
 refine(rX rfl ⟨way,rfl,λg2=>?_,λg2=>⟨sm.w,h2 (by simp[dN,g2])⟩⟩)
 refine(rX rfl (rX rfl ⟨ar,way,rfl,sm.p,λg3=>?_,λg3=>h2 (by simp[dN,g3])⟩))
 refine(rX rfl ⟨many,rfl,sm.m,λg4=>?_,λg4=>h2 (by simp[dN,g4])⟩)
 refine(rX rfl (rX rfl (rX rfl ⟨shows,many,way,rfl,sm.h,sm.m,sm.w2,λg5=>?_,λg5=>h2 (by simp[dN,g5])⟩)))
 have k:=h1 (by simp[dN,g1,g2,g3,g4,g5])
 refine(rX rfl (rX rfl ⟨p,c.O,dx,rX rfl ⟨hp,C.cN,C.o1,(by show 0<1000;decide),?_⟩⟩))
 refine(rX rfl (rX rfl ⟨p,c.O,dx,rX rfl ⟨aB,C.cN,C.o2,(by show 1<1000;decide),?_⟩⟩))
 refine(rX rfl (rX rfl ⟨p,c.O,dx,rX rfl ⟨aB,C.cN,C.o3,(by show 2<1000;decide),?_⟩⟩))
 refine(rX rfl (rX rfl ⟨p,c.O,dx,rX rfl ⟨aB,C.cN,C.o4,(by show 3<1000;decide),?_⟩⟩))
 refine(rX rfl (rX rfl ⟨p,c.O,dx,rX rfl ⟨aB,C.cN,C.o5,(by show 4<1000;decide),?_⟩⟩))
 refine(rX rfl (rX rfl ⟨p,c.O,dx,rX rfl ⟨aB,C.cN,C.o6,(by show 5<1000;decide),?_⟩⟩))
 refine(rX rfl ⟨p,c.O,dx,rX rfl ⟨aB,C.cN,C.o7,(by show 6<1000;decide),?_⟩⟩)
 rw[fb,fb,fb,fb,fb,fb]
 exact k
noncomputable def cy(p:Int)(side:Str)(ar:ae Int):ai:=match ar with
 |none=>true
 |some q=>if side="buy" then decide (p<=q)else decide (q<=p)
theorem afb:bc ["price","order"] ["price","order"] (aX BK):=bw
inductive LV(c:Cs)(vs:List V)(H:Hp)(Q:VK)(_:XK):Prop
 |mk (p:Int) (o dx:Addr) (owner:Int) (side:Str) (ar:Option Int) (many:Int) (shows:Option Int) (way:Str) (num:V) (_:vs= [.int p,.ref o]) (_:H o=some (.ins c.O dx (fh owner side ar many shows way num))) (_:Q (.bl (cy p side ar)) H)
theorem VR(F:dq K "suits" "suits" BK f fd)(C:bR K mg c):cJ P w K mg base (cI P w) 1 f fd ["price","order"] (LV c):=by
 refine F.bT afb λ_ _ _ _ _ _ _ _ _ h=>?_
 obtain⟨p,o,dx,owner,side,ar,many,shows,way,num,rfl,ho,q⟩:=h
 refine⟨_,az (bK (gB (jA (aT (pv 1) rfl))) (aD (a8 iA)) bZ)
  (az (bK (bC cQ (aT (pv 1) rfl) aJ (a9 _)) (aD (a8 (je ng (pv 0) (aT (pv 1) rfl) (a9 _)))) bZ)
  (aD (a8 (je Av (pv 0) (aT (pv 1) rfl) (a9 _))))),?_⟩
 refine(rX rfl (rA o c.O dx rfl ho C.cN C.o3 rfl (rX rfl ?_)))
 cases ar with
 |none=>exact bL q
 |some k=>
  refine bF ?_
  refine(rX rfl (rA o c.O dx rfl ho C.cN C.o2 rfl ⟨rfl,rX rfl ?_⟩))
  by_cases hs:side="buy"
  ·subst hs
   refine bL (rX rfl (rX rfl (rA o c.O dx rfl ho C.cN C.o3 rfl (r2 rfl rfl ?_))))
   simpa [cy]using q
  ·have d:decide (V.str side=V.str ("buy":Str))=false:=by simp[hs]
   rw[d]
   refine bF (rX rfl (rX rfl (rA o c.O dx rfl ho C.cN C.o3 rfl (r2 rfl rfl ?_))))
   simpa [cy,hs]using q
theorem aeZ:bc ["self"] ["self"] (aX Bn):=bw
inductive TJ(c:Cs)(vs:List V)(H:Hp)(Q:VK)(_:XK):Prop
 |mk (p dx:Addr) (_:vs= [.ref p]) (_:H p=some (.ins c.N dx [])) (_:Q .aE (upd H p (.ins c.N dx (mS 0))))
theorem ady(F:dq K "__init__" "Numbering.__init__" Bn f fd)(C:bR K mg c):cJ P w K mg base (cI P w) 1 f fd ["self"] (TJ c):=by
 refine F.bT aeZ λ_ _ _ _ _ _ _ _ _ h=>?_
 obtain⟨p,dx,rfl,hp,q⟩:=h
 exact⟨_,aD (dW (pv 0) aF rfl),_,rfl,p,c.N,dx,_,rfl,hp,C.yY,C.n1,(by show 0<1000;decide),q⟩
theorem aeB:bc ["self","order"] ["self","order"] (aX BM):=bw
inductive afm(c:Cs)(vs:List V)(H:Hp)(Q:VK)(_:XK):Prop
 |mk (p dx o dy:Addr) (k owner:Int) (side:Str) (ar:Option Int) (many:Int) (shows:Option Int) (way:Str) (num:V) (_:vs= [.ref p,.ref o]) (_:H p=some (.ins c.N dx (mS k))) (_:H o=some (.ins c.O dy (fh owner side ar many shows way num))) (_:Q (.int k) (upd (upd H o (.ins c.O dy (fh owner side ar many shows way (.int k)))) p (.ins c.N dx (mS (k+1)))))
theorem adw(F:dq K "admit" "Numbering.admit" BM f fd)(C:bR K mg c):cJ P w K mg base (cI P w) 1 f fd ["self","order"] (afm c):=by
 refine F.bT aeB λ_ _ _ _ H _ _ _ _ h=>?_
 obtain⟨p,dx,o,dy,k,owner,side,ar,many,shows,way,num,rfl,hp,ho,q⟩:=h
 have mR:p≠o:=sk hp ho (BU "came" (by show some (V.int k)≠none;simp))
 refine⟨_,az (dW (pv 1) (aT (pv 0) rfl) rfl) (az (rH (pv 0) aF OL) (aD (a8 (aT (pv 1) rfl)))),?_⟩
 refine(rX rfl (rA p c.N dx rfl hp C.yY C.n1 rfl (rX rfl ⟨o,c.O,dy,rX rfl ⟨ho,C.cN,C.o7,(by show 7<1000;decide),?_⟩⟩)))
 have g0:∀u,(upd H o u) p=some (.ins c.N dx (mS k)):=λu=>by rw[aw mR];exact hp
 refine⟨_,rfl,p,c.N,dx,_,_,rfl,g0 _,C.yY,C.n1,rfl,?_⟩
 refine⟨_,_,rfl,rfl,dx,_,g0 _,(by show 1<1000;decide),?_⟩
 exact(rX rfl (rA o c.O dy rfl (by rw[aw mR.symm,aB]) C.cN C.o7 rfl q))
end
end Fb
variable {c:Fb.Cs}
namespace Fb
open PySem L2
section
theorem aeM:bc ["self","order"] ["self","order"] (aX Bo):=bw
inductive afI(c:Cs)(vs:List V)(H:Hp)(Q:VK)(_:XK):Prop
 |mk (p dx o dy:Addr) (owner:Int) (side:Str) (ar:Option Int) (many:Int) (shows:Option Int) (way:Str) (num:V) (_:vs= [.ref p,.ref o]) (_:H p=some (.ins c.E dx [])) (_:H o=some (.ins c.O dy (fh owner side ar many shows way num))) (_:Q .aE (upd H p (.ins c.E dx (cY o many 0 .aE))))
theorem adx(F:dq K "__init__" "Entry.__init__" Bo f fd)(C:bR K mg c):cJ P w K mg base (cI P w) 1 f fd ["self","order"] (afI c):=by
 refine F.bT aeM λ_ _ _ _ _ _ _ _ _ h=>?_
 obtain⟨p,dx,o,dy,owner,side,ar,many,shows,way,num,rfl,hp,ho,q⟩:=h
 have mR:o≠p:=sk ho hp (BU "owner" (by show some (V.int owner)≠none;simp))
 refine⟨_,az (dW (pv 0) (pv 1) rfl) (az (dW (pv 0) (aT (pv 1) rfl) rfl) (az (dW (pv 0) aF rfl) (aD (dW (pv 0) g_ rfl)))),?_⟩
 refine(rX rfl (rX rfl ⟨p,c.E,dx,rX rfl ⟨hp,C.bM,C.e1,(by show 0<1000;decide),?_⟩⟩))
 refine(rX rfl (rA o c.O dy rfl (by rw[aw mR];exact ho) C.cN C.o4 rfl (rX rfl ⟨p,c.E,dx,rX rfl ⟨aB,C.bM,C.e2,(by show 1<1000;decide),?_⟩⟩)))
 refine(rX rfl ⟨p,c.E,dx,rX rfl ⟨aB,C.bM,C.e3,(by show 2<1000;decide),?_⟩⟩)
 refine(rX rfl ⟨p,c.E,dx,rX rfl ⟨aB,C.bM,C.e4,(by show 3<1000;decide),?_⟩⟩)
 rw[fb,fb,fb]
 exact q
theorem ae7:bc ["self"] ["self"] (aX AJ):=bw
inductive LU(c:Cs)(vs:List V)(H:Hp)(Q:VK)(_:XK):Prop
 |mk (p dx o dy:Addr) (left sh:Int) (rk:V) (owner:Int) (side:Str) (ar:Option Int) (many:Int) (shows:Option Int) (way:Str) (num:V) (_:vs= [.ref p]) (_:H p=some (.ins c.E dx (cY o left sh rk))) (_:H o=some (.ins c.O dy (fh owner side ar many shows way num))) (_:Q .aE (upd H p (.ins c.E dx (cY o left (cp shows left) rk))))
theorem Wg(F:dq K "show_again" "Entry.show_again" AJ f fd)(C:bR K mg c):cJ P w K mg base (cI P w) 1 f fd ["self"] (LU c):=by
 refine F.bT ae7 λ_ _ _ _ _ _ _ _ _ h=>?_
 obtain⟨p,dx,o,dy,left,sh,rk,owner,side,ar,many,shows,way,num,rfl,hp,ho,q⟩:=h
 refine⟨_,aD (bK (gB (jA (aT (aT (pv 0) rfl) rfl))) (aD (dW (pv 0) (aT (pv 0) rfl) rfl))
  (aD (dW (pv 0) (c9 (pT rfl) (by rfl) C.min (by decide+kernel) (av (aT (aT (pv 0) rfl) rfl) (av (aT (pv 0) rfl) ay))) rfl))),?_⟩
 refine(rX rfl (rA p c.E dx rfl hp C.bM C.e1 rfl (rA o c.O dy rfl ho C.cN C.o5 rfl (rX rfl ?_))))
 cases shows with
 |none=>exact bL ⟨_,rfl,p,c.E,dx,_,_,rfl,hp,C.bM,C.e2,rfl,_,rfl,p,c.E,dx,_,rfl,hp,C.bM,C.e3,(by show 4<1000;decide),q⟩
 |some k=>
  exact bF (rX rfl (rA p c.E dx rfl hp C.bM C.e1 rfl (rA o c.O dy rfl ho C.cN C.o5 rfl (rX rfl (rA p c.E dx rfl hp C.bM C.e2 rfl ⟨_,rX rfl (rX rfl ⟨p,c.E,dx,rX rfl ⟨hp,C.bM,C.e3,(by show 4<1000;decide),q⟩⟩)⟩)))))
theorem afa:bc ["self","place"] ["self","place"] (aX BL):=bw
inductive TN(c:Cs)(vs:List V)(H:Hp)(Q:VK)(_:XK):Prop
 |mk (p dx o dy:Addr) (pl left sh:Int) (rk:V) (owner:Int) (b:Bool) (ar:Int) (many:Int) (shows:Option Int) (way:Str) (num:V) (_:vs= [.ref p,.int pl]) (_:H p=some (.ins c.E dx (cY o left sh rk))) (_:H o=some (.ins c.O dy (fh owner (aH b) (some ar) many shows way num))) (_:∀r,H r=none->Q .aE (upd (upd H r (.tup [.int (if b=true then-ar else ar),.int pl])) p (.ins c.E dx (cY o left sh (.ref r)))))
theorem adA(F:dq K "stand_at" "Entry.stand_at" BL f fd)(C:bR K mg c):cJ P w K mg base (cI P w) 1 f fd ["self","place"] (TN c):=by
 refine F.bT afa λ_ _ _ _ _ _ _ _ _ h=>?_
 obtain⟨p,dx,o,dy,pl,left,sh,rk,owner,b,ar,many,shows,way,num,rfl,hp,ho,q⟩:=h
 refine⟨_,aD (bK (bC cQ (aT (aT (pv 0) rfl) rfl) aJ (a9 _))
  (aD (dW (pv 0) (eM (av (AB BR (aT (aT (pv 0) rfl) rfl)) (av (pv 1) ay))) rfl))
  (aD (dW (pv 0) (eM (av (aT (aT (pv 0) rfl) rfl) (av (pv 1) ay))) rfl))),?_⟩
 refine(rX rfl (rA p c.E dx rfl hp C.bM C.e1 rfl (rA o c.O dy rfl ho C.cN C.o2 rfl ⟨rfl,rX rfl ?_⟩)))
 have two:∀a b:V,([a,b]:aa V).length<=sizeLine:=λa b=>by rw[a7];show 2<=16777216;decide
 cases b with
 |true=>
  exact bL (rX rfl (rA p c.E dx rfl hp C.bM C.e1 rfl (rA o c.O dy rfl ho C.cN C.o3 rfl (rX rfl (rX rfl ⟨two _ _,λr hn=>(rX rfl ⟨p,c.E,dx,cY o left sh rk,rfl,(by rw[aw (a6 hp hn)];exact hp),C.bM,C.e4,(by show 4<1000;decide),q r hn⟩)⟩)))))
 |false=>
  have d:decide (V.str (aH false)=V.str ("buy":Str))=false:=by decide+kernel
  rw[d]
  exact bF (rX rfl (rA p c.E dx rfl hp C.bM C.e1 rfl (rA o c.O dy rfl ho C.cN C.o3 rfl (rX rfl ⟨two _ _,λr hn=>(rX rfl ⟨p,c.E,dx,cY o left sh rk,rfl,(by rw[aw (a6 hp hn)];exact hp),C.bM,C.e4,(by show 4<1000;decide),q r hn⟩)⟩))))
structure jk(c:Cs)(H:Hp)(e:Ent):Prop where
 en:∃dx,H e.ea=some (.ins c.E dx (cY e.oa e.left e.shown (.ref e.ra)))
 od:∃dx,H e.oa=some (.ins c.O dx (fh e.owner (aH e.au) (some e.ar) e.many e.shows "rest" (.int e.num)))
 rk:H e.ra=some (.tup [.int e.k1,.int e.place])
theorem ui:bc ["entries","rank","low","high","middle"] ["entries","rank"] (aX AI):=bw
inductive LS(c:Cs)(vs:List V)(H:Hp)(Q:VK)(_:XK):Prop
 |mk (l r:Addr) (es:List Ent) (a b:Int) (pos:Nat) (_:vs= [.ref l,.ref r]) (_:H l=some (.lst (es.map λe=>.ref e.ea))) (_:H r=some (.tup [.int a,.int b])) (_:(∀e∈es,jk c H e)) (_:es.length<=1000) (_:pos<=es.length) (_:(∀(i:Nat) e,es[i]?=some e->(klt e.k1 e.place a b↔i<pos))) (_:Q (.int pos) H)
theorem Wh(F:dq K "find_rank" "find_rank" AI f fd)(C:bR K mg c):cJ P w K mg base (cI P w) 1 f fd ["entries","rank"] (LS c):=by
 refine F.bT ui λ_ _ _ _ H _ _ _ hr h=>?_
 obtain⟨l,r,es,a,b,pos,rfl,hl,qP,fu,hlen,EN,iM,q⟩:=h
 have hu:=fc hr
 refine⟨_,az (aZ 2 ui.nd aF) (az (aZ 3 ui.nd (c9 A5 (by rfl) C.len (by decide+kernel) (av (pv 0) ay)))
  (az (yc jG (bC Aw (pv 2) (pv 3) (a9 _)) (az (aZ 4 ui.nd (ba g8 (ba gR (pv 2) (pv 3)) aF))
   (aD (bK (bC (adC (Nat.lt_of_succ_lt hu)) (aT (cv g9 (pv 0) (pv 4) (λ_ _=>rfl)) rfl) (pv 1) (a9 _))
    (aD (aZ 2 ui.nd (ba gR (pv 4) aF))) (aD (aZ 3 ui.nd (pv 4)))))))
  (aD (a8 (pv 2))))),?_⟩
 refine(rX rfl ⟨l,rX rfl ⟨.inl (aK.of hl),?_⟩⟩)
 refine⟨λm σ H'=>∃(lo hi:Nat) (mid:ae V),H'=H/\σ= [some (.ref l),some (.ref r),some (.int lo),some (.int hi),mid]/\lo<=pos/\pos<=hi/\hi<=es.length/\m=hi-lo,⟨_,0,es.length,none,rfl,by rw[bH];rfl,dD _,EN,bu _,rfl⟩,?_⟩
 rintro m σ H' ⟨lo,hi,mid,rfl,rfl,h1,h2,h3,rfl⟩
 refine(rX rfl (rX rfl (r2 rfl rfl (rX rfl ?_))))
 refine kC (λe=>?_) (λe=>?_)
 ·have lt:(lo:Int)< (hi:Int):=eB e
  refine⟨_,λ_ _ h=>h,?_⟩
  refine(rX rfl (rX rfl (r2 rfl rfl (r2 rfl rfl ⟨⟨by decide,by decide⟩,?_⟩))))
  have hm:(lo+hi) / 2<es.length:=by omega
  have em:((lo:Int)+(hi:Int)) / 2=(((lo+hi) / 2:Nat):Int):=by omega
  obtain⟨x,hx⟩:∃x,es[(lo+hi) / 2]?=some x:=⟨es[(lo+hi) / 2],by simp[hm]⟩
  have ok:=fu x (d6 hx)
  obtain⟨dx,bp⟩:=ok.en
  refine⟨_,rfl,_,rfl,l,_,_,_,rfl,rfl,aK.of hl,(by rw[em];exact bf (by rw[fN,hx];rfl)),x.ea,c.E,dx,_,_,rfl,bp,C.bM,C.e4,rfl,_,rfl,x.ra,r,[x.k1,x.place],[a,b],rfl,rfl,aM.of ok.rk,aM.of qP,_,rfl,?_⟩
  have hk:=iM _ x hx
  rw[ach]
  refine kC (λe2=>?_) (λe2=>?_)
  ·have:=hk.mp (eB e2)
   refine(rX rfl (r2 rfl rfl ?_))
   exact⟨hi- ((lo+hi) / 2+1),by omega,(lo+hi) / 2+1,hi,some (.int (((lo+hi) / 2:Nat):Int)),rfl,by dsimp only[List.set];rw[em];rfl,by omega,by omega,by omega,rfl⟩
  ·have:¬(lo+hi) / 2<pos:=λz=>e2 (bO (hk.mpr z))
   exact(rX rfl ⟨(lo+hi) / 2-lo,by omega,lo,(lo+hi) / 2,some (.int (((lo+hi) / 2:Nat):Int)),rfl,by dsimp only[List.set];rw[em],by omega,by omega,by omega,rfl⟩)
 ·have ge:¬(lo:Int)< (hi:Int):=λz=>e (bO z)
  have ep:lo=pos:=by omega
  subst ep
  exact(rX rfl q)
end
open PySem L2
noncomputable def Dn(K:W.Frag)(x qual:Str)(st:Stmt)(f:ah)(ps:aa Str):Prop:=∃fd,dq K x qual st f fd/\gA K fd ps []
noncomputable def Kp(P:Program)(w:World)(K:W.Frag)(mg:Str->ae af)(base:aj)(k:Nat)(f:ah)(ps:aa Str)(sp:Sp):Prop:=∃fd,cJ P w K mg base (cI P w) k f fd ps sp/\gA K fd ps []/\W.keepIn K (.ref f)=true
theorem Dn.kp{P:Program}{w:World}{mg:Str->ae af}{base:aj}{k:Nat}{sp:Sp}(d:Dn K x qual st f ps)
  (h:∀fd,dq K x qual st f fd->cJ P w K mg base (cI P w) k f fd ps sp):Kp P w K mg base k f ps sp:=let⟨fd,F,b⟩:=d;⟨fd,h fd F,b,F.kp⟩
structure Ga where
 b:Addr
 nb:Addr
 ds:Addr
 lb:Addr
 ls:Addr
 de:Addr
noncomputable def Ga.at(g:Ga)(b:ai):ah:=if b=true then g.lb else g.ls
noncomputable def Bk.at(B:Bk)(b:ai):aa Ent:=if b=true then B.aU else B.aV
noncomputable def Bk.set(B:Bk)(b:ai)(xs:aa Ent):Bk:=if b=true then{B with aU:=xs}else{B with aV:=xs}
noncomputable abbrev refs(xs:aa Ent):aa V:=xs.map λe=>.ref e.ea
structure Rep(c:Cs)(H:Hp)(g:Ga)(B:Bk):Prop where
 ob:∃dx,H g.b=some (.ins c.B dx (nh g.nb g.ds g.de B.places B.aY B.last B.bE))
 nb:∃dx,H g.nb=some (.ins c.N dx (mS B.aG))
 ds:H g.ds=some (.dK [(Sum.inr "buy",.ref g.lb),(Sum.inr "sell",.ref g.ls)])
 ls:∀b,H (g.at b)=some (.lst (refs (B.at b)))
 ne:g.lb≠g.ls
 dd:g.de≠g.ds
 de:∃kvs,H g.de=some (.dK kvs)/\(kvs.map (·.1)).Nodup/\kvs.length=B.aU.length+B.aV.length/\(∀b,∀e∈B.at b,bQ kvs (Sum.inl e.num)=some (.ref e.ea))/\∀n v,bQ kvs (Sum.inl n)=some v->∃b,∃e∈B.at b,e.num=n
 en:∀b,∀e∈B.at b,jk c H e
structure Bk.Ok(B:Bk):Prop where
 so:∀b,eN (B.at b)
 sd:∀b,∀e∈B.at b,e.au=b
 nd:∀b,((B.at b).map (·.num)).Nodup
 nx:∀e∈B.aU,∀e'∈B.aV,e.num≠e'.num
 lt:∀b,∀e∈B.at b,0<=e.num/\e.num<B.aG
 pl:∀b,∀e∈B.at b,e.place<B.places
 ct:((B.aU.length+B.aV.length:Nat):Int)<=B.aG
 cm:B.aG<=500
noncomputable def bI(g:Ga)(B:Bk)(a:ah):Prop:=a=g.b\/a=g.nb\/a=g.lb\/a=g.ls\/a=g.de\/∃b,∃e∈B.at b,a=e.ea
theorem Pb{g:Ga}(h:g.lb≠g.ls)(b:ai):g.at b≠g.at (!b):=by cases b<;>simp[Ga.at,h,gH h]
theorem jk.y_(h:jk c H e)(h':jk c H e')(z:e.ea=e'.ea):e.num=e'.num:=by
 obtain⟨dx,en⟩:=h.en
 obtain⟨pb,Yi⟩:=h'.en
 rw[z,Yi]at en
 have q:e'.oa=e.oa:=by
  have:=dA (λo:ae HO=>match o with|some (.ins _ _ fs)=>fs.lookup ("order":Str) |_=>none) en
  have:some (V.ref e'.oa)=some (V.ref e.oa):=this
  injection this with this
  injection this
 obtain⟨dy,od⟩:=h.od
 obtain⟨Dr,od'⟩:=h'.od
 rw[<-q,od']at od
 have:=dA (λo:ae HO=>match o with|some (.ins _ _ fs)=>fs.lookup ("number":Str) |_=>none) od
 have:some (V.int e'.num)=some (V.int e.num):=this
 injection this with this
 injection this with this
 exact this.symm
noncomputable def Bk.put(B:Bk)(e:Ent)(r:ah):Bk:={B.set e.au (g6 {e with ra:=r,place:=B.places,shown:=cp e.shows e.left} (B.at e.au))with places:=B.places+1}
theorem pV(B:Bk)(e:Ent)(r:ah):(B.put e r).at e.au=g6 {e with ra:=r,place:=B.places,shown:=cp e.shows e.left} (B.at e.au):=by
 unfold Bk.put Bk.set Bk.at
 cases e.au<;>rfl
theorem uD(B:Bk)(e:Ent)(r:ah):(B.put e r).at (!e.au)=B.at (!e.au):=by
 unfold Bk.put Bk.set Bk.at
 cases e.au<;>rfl
theorem uH(B:Bk)(e:Ent)(r:ah):(B.put e r).aG=B.aG/\(B.put e r).places=B.places+1/\(B.put e r).aY=B.aY/\(B.put e r).last=B.last/\(B.put e r).bE=B.bE:=by
 unfold Bk.put Bk.set
 cases e.au<;>exact⟨rfl,rfl,rfl,rfl,rfl⟩
theorem ix{x:ai}(h:¬b=x):b= !x:=by
 cases b<;>cases x<;>simp_all
theorem Nn(e:Ent)(xs:aa Ent):(g6 e xs).length=xs.length+1:=(M8 e xs).length_eq
theorem V9(B:Bk)(e:Ent)(r:ah):(B.put e r).aU.length+(B.put e r).aV.length=B.aU.length+B.aV.length+1:=by
 unfold Bk.put Bk.set Bk.at
 cases e.au
 ·show B.aU.length+(g6 _ B.aV).length=_
  rw[Nn]
  omega
 ·show(g6 _ B.aU).length+B.aV.length=_
  rw[Nn]
  omega
theorem j7{r:ah}{x:Ent}(h:x∈(B.put e r).at b):(b=e.au/\x={e with ra:=r,place:=B.places,shown:=cp e.shows e.left})\/x∈B.at b:=by
 by_cases hb:b=e.au
 ·subst hb
  rw[pV]at h
  exact(uE.mp h).imp (λz=>⟨rfl,z⟩) id
 ·have:b= !e.au:=ix hb
  subst this
  rw[uD]at h
  exact .inr h
theorem VU{r:ah}{x:Ent}(h:x∈B.at b):x∈(B.put e r).at b:=by
 by_cases hb:b=e.au
 ·subst hb
  rw[pV]
  exact uE.mpr (.inr h)
 ·have:b= !e.au:=ix hb
  subst this
  rw[uD]
  exact h
theorem UP(B:Bk)(e:Ent)(r:ah):{e with ra:=r,place:=B.places,shown:=cp e.shows e.left}∈(B.put e r).at e.au:=by
 rw[pV]
 exact uE.mpr (.inl rfl)
theorem yd{b:ai}(ok:B.Ok)(b1 b2:ai)(h:e∈B.at b1)(h':e'∈B.at b2)(hn:e.num=e'.num):b1=b2:=by
 cases b1<;>cases b2<;>first|rfl|exact absurd hn.symm (ok.nx _ h' _ h) |exact absurd hn (ok.nx _ h _ h')
theorem Bk.Ok.put(ok:B.Ok)(r:ah)(h0:0<=e.num)(h1:e.num<B.aG)(hn:∀b,∀x∈B.at b,x.num≠e.num)(hc:((B.aU.length+B.aV.length:Nat):Int)<B.aG):(B.put e r).Ok:=by
 obtain⟨q1,q2,q3,q4,q5⟩:=uH B e r
 refine⟨λb=>?_,λb x hx=>?_,λb=>?_,?_,λb x hx=>?_,λb x hx=>?_,?_,by rw[q1];exact ok.cm⟩
 ·by_cases hb:b=e.au
  ·subst hb
   rw[pV]
   exact zev (ok.so _) λx hx=>ok.pl _ x hx
  ·have:b= !e.au:=ix hb
   subst this
   rw[uD]
   exact ok.so _
 ·rcases j7 hx with⟨hb,hx⟩ |hx
  ·rw[hx,hb]
  ·exact ok.sd b x hx
 ·by_cases hb:b=e.au
  ·subst hb
   rw[pV]
   refine((M8 _ _).map (·.num)).nodup_iff.mpr ?_
   refine List.nodup_cons.mpr ⟨λhm=>?_,ok.nd _⟩
   obtain⟨x,hx,ex⟩:=u4.mp hm
   exact hn _ x hx ex
  ·have:b= !e.au:=ix hb
   subst this
   rw[uD]
   exact ok.nd _
 ·intro x hx y hy
  have cA:x∈(B.put e r).at true:=hx
  have gr:y∈(B.put e r).at false:=hy
  rcases j7 cA with⟨hb,ex⟩ |pD
  ·rcases j7 gr with⟨cZ,ey⟩ |ig
   ·rw[<-hb]at cZ
    cases cZ
   ·rw[ex]
    exact λz=>hn _ y ig z.symm
  ·rcases j7 gr with⟨cZ,ey⟩ |ig
   ·rw[ey]
    exact λz=>hn _ x pD z
   ·exact ok.nx x pD y ig
 ·rw[q1]
  rcases j7 hx with⟨hb,hx⟩ |hx
  ·rw[hx]
   exact⟨h0,h1⟩
  ·exact ok.lt b x hx
 ·rw[q2]
  rcases j7 hx with⟨hb,hx⟩ |hx
  ·rw[hx]
   show B.places<B.places+1
   omega
  ·have:=ok.pl b x hx
   omega
 ·rw[V9,q1]
  omega
end Fb
variable {g:Fb.Ga}
namespace Fb
open PySem L2
noncomputable def kd:HO->Nat
 | .ins _ _ fs=>if(fs.lookup ("remaining":Str)).isSome=true then 1 else if(fs.lookup ("owner":Str)).isSome=true then 2 else if(fs.lookup ("numbering":Str)).isSome=true then 3 else if(fs.lookup ("came":Str)).isSome=true then 4 else 0
 | .lst _=>5
 | .dK _=>6
 | .tup _=>7
 |_=>8
theorem aN{b:ah}{o u:HO}(i j:Nat)(h:H a=some o)(h':H b=some u)(hi:kd o=i:=by rfl)(hj:kd u=j:=by rfl)(dH:i≠j:=by decide):a≠b:=
 sk h h' λz=>dH (by rw[<-hi,<-hj,z])
theorem A7{κ:Type} [DecidableEq κ](k j:κ):∀kvs:aa (κ×V),bQ (gS kvs k) j=if j=k then none else bQ kvs j
 | []=>by
  show none=if j=k then none else none
  split<;>rfl
 |p::r=>by
  by_cases e:p.1=k
  ·rw[M_ e,A7 k j r]
   by_cases h:j=k
   ·rw[aA h,aA h]
   ·rw[ax h,ax h,jb (λz=>h (z.symm.trans e))]
  ·rw[Bv e]
   by_cases h:p.1=j
   ·have ZK:¬j=k:=λz=>e (h.trans z)
    rw[jC h,ax ZK,jC h]
   ·rw[jb h,A7 k j r,jb h]
theorem Wx{x:Ent}(h:jk c H x){ea oa dx dy:ah}{l s:Int}{rk:V}{ow:Int}{sd:Str}{pr:ae Int}{mn:Int}{sw:ae Int}{wy:Str}{num:Int}
  (bp:H ea=some (.ins c.E dx (cY oa l s rk))) (cR:H oa=some (.ins c.O dy (fh ow sd pr mn sw wy (.int num)))) (z:x.ea=ea):x.num=num:=by
 obtain⟨pb,en⟩:=h.en
 rw[z,bp]at en
 have q:some (V.ref oa)=some (V.ref x.oa):=dA (λo:ae HO=>match o with|some (.ins _ _ fs)=>fs.lookup ("order":Str) |_=>none) en
 injection q with q
 injection q with q
 obtain⟨Dr,od⟩:=h.od
 rw[<-q,cR]at od
 have q2:some (V.int num)=some (V.int x.num):=dA (λo:ae HO=>match o with|some (.ins _ _ fs)=>fs.lookup ("number":Str) |_=>none) od
 injection q2 with q2
 injection q2 with q2
 exact q2.symm
noncomputable def jx(c:Cs)(g:Ga)(B:Bk)(e:Ent)(dx dxb r:ah)(kvs:aa (Key×V))(H:Hp):Hp:=
 upd (upd (upd (upd (upd H r (.tup [.int e.k1,.int B.places])) e.ea (.ins c.E dx (cY e.oa e.left (cp e.shows e.left) (.ref r))))
  g.b (.ins c.B dxb (nh g.nb g.ds g.de (B.places+1) B.aY B.last B.bE)))
  (g.at e.au) (.lst ((refs (B.at e.au)).take (fi {e with ra:=r,place:=B.places,shown:=cp e.shows e.left} (B.at e.au))++ .ref e.ea::(refs (B.at e.au)).drop (fi {e with ra:=r,place:=B.places,shown:=cp e.shows e.left} (B.at e.au)))))
  g.de (.dK (putK kvs (Sum.inl e.num) (.ref e.ea)))
theorem aeo{dy dxb r:ah}{sh:Int}{rk:V}{kvs:aa (Key×V)}(R:Rep c H g B)(bp:H e.ea=some (.ins c.E dx (cY e.oa e.left sh rk)))
  (cR:H e.oa=some (.ins c.O dy (fh e.owner (aH e.au) (some e.ar) e.many e.shows "rest" (.int e.num)))) (hn:∀b,∀x∈B.at b,x.num≠e.num) (hr:H r=none)
  (gj:H g.b=some (.ins c.B dxb (nh g.nb g.ds g.de B.places B.aY B.last B.bE))) (cw:H g.de=some (.dK kvs)) (dg:(kvs.map (·.1)).Nodup) (hlen:kvs.length=B.aU.length+B.aV.length)
  (iN:∀b,∀e∈B.at b,bQ kvs (Sum.inl e.num)=some (.ref e.ea)) (gq:∀n v,bQ kvs (Sum.inl n)=some v->∃b,∃e∈B.at b,e.num=n):
  Rep c (jx c g B e dx dxb r kvs H) g (B.put e r)/\∀a o,H a=some o->¬bI g B a->a≠e.ea->jx c g B e dx dxb r kvs H a=some o:=by
 have un:∀a,a≠g.de->a≠g.at e.au->a≠g.b->a≠e.ea->a≠r->jx c g B e dx dxb r kvs H a=H a:=λa h1 h2 h3 h4 h5=>by
  unfold jx
  rw[aw h1,aw h2,aw h3,aw h4,aw h5]
 obtain⟨dn,mG⟩:=R.nb
 have eI:=R.ls
 have fr:∀{a:ah} {o:HO},H a=some o->a≠r:=λh=>a6 h hr
 have l1:∀b,g.at b≠g.de:=λb=>aN 5 6 (eI b) cw
 have l2:∀b,g.at b≠g.b:=λb=>aN 5 3 (eI b) gj
 have l3:∀b,g.at b≠e.ea:=λb=>aN 5 1 (eI b) bp
 have b1:g.b≠g.de:=aN 3 6 gj cw
 have b2:g.b≠e.ea:=aN 3 1 gj bp
 have n1:g.nb≠g.de:=aN 4 6 mG cw
 have n2:∀b,g.nb≠g.at b:=λb=>aN 4 5 mG (eI b)
 have n3:g.nb≠g.b:=aN 4 3 mG gj
 have n4:g.nb≠e.ea:=aN 4 1 mG bp
 have s2:∀b,g.ds≠g.at b:=λb=>aN 6 5 R.ds (eI b)
 have s3:g.ds≠g.b:=aN 6 3 R.ds gj
 have s4:g.ds≠e.ea:=aN 6 1 R.ds bp
 have d4:g.de≠e.ea:=aN 6 1 cw bp
 obtain⟨q1,q2,q3,q4,q5⟩:=uH B e r
 have Ug:bQ kvs (Sum.inl e.num)=none:=by
  cases q:bQ kvs (Sum.inl e.num)with
  |none=>rfl
  |some v=>
   obtain⟨b,x,hx,ex⟩:=gq _ _ q
   exact absurd ex (hn b x hx)
 have old:∀b,∀x∈B.at b,jk c (jx c g B e dx dxb r kvs H) x:=λb x hx=>by
  have k:=R.en b x hx
  obtain⟨⟨dz,xe⟩,⟨dw,xo⟩,xr⟩:=id k
  have Ms:x.ea≠e.ea:=λz=>hn b x hx (Wx k bp cR z)
  refine⟨⟨dz,?_⟩,⟨dw,?_⟩,?_⟩
  ·rw[un _ (aN 1 6 xe cw) (aN 1 5 xe (eI _)) (aN 1 3 xe gj) Ms (fr xe)]
   exact xe
  ·rw[un _ (aN 2 6 xo cw) (aN 2 5 xo (eI _)) (aN 2 3 xo gj) (aN 2 1 xo bp) (fr xo)]
   exact xo
  ·rw[un _ (aN 7 6 xr cw) (aN 7 5 xr (eI _)) (aN 7 3 xr gj) (aN 7 1 xr bp) (fr xr)]
   exact xr
 have new:jk c (jx c g B e dx dxb r kvs H) {e with ra:=r,place:=B.places,shown:=cp e.shows e.left}:=by
  refine⟨⟨dx,?_⟩,⟨dy,?_⟩,?_⟩
  ·show jx c g B e dx dxb r kvs H e.ea=_
   unfold jx
   rw[aw d4.symm,aw (l3 _).symm,aw b2.symm,aB]
  ·show jx c g B e dx dxb r kvs H e.oa=_
   rw[un _ (aN 2 6 cR cw) (aN 2 5 cR (eI _)) (aN 2 3 cR gj) (aN 2 1 cR bp) (fr cR)]
   exact cR
  ·show jx c g B e dx dxb r kvs H r=_
   unfold jx
   rw[aw (fr cw).symm,aw (fr (eI _)).symm,aw (fr gj).symm,aw (fr bp).symm,aB]
   rfl
 refine⟨⟨⟨dxb,?_⟩,⟨dn,?_⟩,?_,λb=>?_,R.ne,R.dd,⟨putK kvs (Sum.inl e.num) (.ref e.ea),?_,ac3 _ dg Ug,?_,λb x hx=>?_,λn v hv=>?_⟩,λb x hx=>?_⟩,λa o ha hf Y1=>?_⟩
 ·unfold jx
  rw[aw b1,aw (l2 _).symm,aB,q2,q3,q4,q5]
 ·rw[un _ n1 (n2 _) n3 n4 (fr mG),q1]
  exact mG
 ·rw[un _ R.dd.symm (s2 _) s3 s4 (fr R.ds)]
  exact R.ds
 ·by_cases hb:b=e.au
  ·subst hb
   rw[pV,WV]
   unfold jx
   rw[aw (l1 _),aB]
   show _=some (HO.lst (List.map (λe:Ent=>V.ref e.ea) _))
   rw[jh,dO,List.map_take,List.map_drop]
  ·have cZ:b= !e.au:=ix hb
   subst cZ
   rw[uD,un _ (l1 _) (Pb R.ne e.au).symm (l2 _) (l3 _) (fr (eI _))]
   exact eI _
 ·unfold jx
  rw[aB]
 ·rw[Vy _ Ug,gF,V9,hlen]
  rfl
 ·rw[VD]
  rcases j7 hx with⟨_,ex⟩ |hx
  ·rw[ex,aA rfl]
  ·rw[ax (λz=>hn b x hx (qh z))]
   exact iN b x hx
 ·rw[VD]at hv
  by_cases dc:n=e.num
  ·subst dc
   exact⟨e.au,_,UP B e r,rfl⟩
  ·rw[ax (λz=>dc (qh z))]at hv
   obtain⟨b,x,hx,ex⟩:=gq n v hv
   exact⟨b,x,VU hx,ex⟩
 ·rcases j7 hx with⟨_,ex⟩ |hx
  ·rw[ex]
   exact new
  ·exact old b x hx
 ·have la:a≠g.at e.au:=λz=>by
   rw[z]at hf
   refine hf ?_
   unfold bI Ga.at
   cases e.au<;>simp
  rw[un a (λz=>hf (by rw[z];exact .inr (.inr (.inr (.inr (.inl rfl)))))) la (λz=>hf (.inl z)) Y1 (fr ha)]
  exact ha
open PySem L2
structure c_ where
 vz:Addr
 vA:Addr
 vx:Addr
 qp:Addr
 vy:Addr
 rm:Addr
 i8:Addr
 ua:Addr
 admit:Addr
 sV:Addr
 pN:Addr
 uo:Addr
 find:Addr
 sR:Addr
 uf:Addr
 tP:Addr
 entriesOf:Addr
 first:Addr
 put:Addr
 takeOut:Addr
 ud:Addr
 record:Addr
structure da(K:W.Frag)(mg:Str->Option Value)(a:c_)(c:Cs):Prop where
 vz:Dn K "check_side" "check_side" xT a.vz ["side"]
 PZ:mg "check_side"=some (.ref a.vz)
 vA:Dn K "check_way" "check_way" x8 a.vA ["way"]
 P0:mg "check_way"=some (.ref a.vA)
 vx:Dn K "check_price" "check_price" xW a.vx ["price","way"]
 PX:mg "check_price"=some (.ref a.vx)
 qp:Dn K "check_many" "check_many" xU a.qp ["many"]
 DG:mg "check_many"=some (.ref a.qp)
 vy:Dn K "check_shows" "check_shows" xV a.vy ["shows","many","way"]
 PY:mg "check_shows"=some (.ref a.vy)
 rm:Dn K "__init__" "Order.__init__" A9 a.rm ["self","owner","side","price","many","shows","way"]
 Su:Mk K c.O a.rm
 i8:Dn K "suits" "suits" BK a.i8 ["price","order"]
 pj:mg "suits"=some (.ref a.i8)
 ua:Dn K "__init__" "Numbering.__init__" Bn a.ua ["self"]
 mkNum:Mk K c.N a.ua
 admit:Dn K "admit" "Numbering.admit" BM a.admit ["self","order"]
 Sg:Meth K c.N "admit" a.admit
 sV:Dn K "__init__" "Entry.__init__" Bo a.sV ["self","order"]
 Ss:Mk K c.E a.sV
 pN:Dn K "show_again" "Entry.show_again" AJ a.pN ["self"]
 Fy:Meth K c.E "show_again" a.pN
 uo:Dn K "stand_at" "Entry.stand_at" BL a.uo ["self","place"]
 Sl:Meth K c.E "stand_at" a.uo
 find:Dn K "find_rank" "find_rank" AI a.find ["entries","rank"]
 ph:mg "find_rank"=some (.ref a.find)
 sR:Dn K "__init__" "Book.__init__" MY a.sR ["self"]
 Sr:Mk K c.B a.sR
 uf:Dn K "resting" "Book.resting" Ny a.uf ["self","side"]
 Sj:Meth K c.B "resting" a.uf
 tP:Dn K "is_calling" "Book.is_calling" MQ a.tP ["self"]
 tW:Meth K c.B "is_calling" a.tP
 entriesOf:Dn K "entries_of" "Book.entries_of" MR a.entriesOf ["self","side"]
 xb:Meth K c.B "entries_of" a.entriesOf
 first:Dn K "first" "Book.first" OD a.first ["self","side"]
 Ai:Meth K c.B "first" a.first
 put:Dn K "put" "Book.put" LI a.put ["self","entry"]
 Fv:Meth K c.B "put" a.put
 takeOut:Dn K "take_out" "Book.take_out" Nx a.takeOut ["self","entry"]
 tX:Meth K c.B "take_out" a.takeOut
 ud:Dn K "put_anew" "Book.put_anew" Nz a.ud ["self","entry"]
 Fw:Meth K c.B "put_anew" a.ud
 record:Dn K "record_trade" "Book.record_trade" N0 a.record ["self","price","many"]
 Fx:Meth K c.B "record_trade" a.record
section
variable {bW:ah} {a:c_}
theorem abS(T:fP K mg bo nt nn be)(O:jJ K mg bW gw)(C:bR K mg c)(F:da K mg a c):Kp P w K mg base 2 a.rm ["self","owner","side","price","many","shows","way"] (TK bo c):=by
 obtain⟨cK,F1,b1⟩:=F.vz
 obtain⟨dG,F2,b2⟩:=F.vA
 obtain⟨gY,F3,b3⟩:=F.vx
 obtain⟨kX,F4,b4⟩:=F.qp
 obtain⟨mh,F5,b5⟩:=F.vy
 exact F.rm.kp λfd G=>adz G T O C F1 b1 F.PZ F2 b2 F.P0 F3 b3 F.PX F4 b4 F.DG F5 b5 F.PY
theorem aeR:bc ["self"] ["self"] (aX MQ):=bw
inductive afQ(c:Cs)(vs:List V)(H:Hp)(Q:VK)(_:XK):Prop
 |mk (g:Ga) (B:Bk) (_:vs= [.ref g.b]) (_:Rep c H g B) (_:Q (.bl B.aY) H)
theorem Bd(C:bR K mg c)(F:da K mg a c):Kp P w K mg base 1 a.tP ["self"] (afQ c):=F.tP.kp λfd G=>by
 refine G.bT aeR λ_ _ _ _ _ _ _ _ _ h=>?_
 obtain⟨g,B,rfl,R,q⟩:=h
 obtain⟨dx,hb⟩:=R.ob
 exact⟨_,aD (a8 (aT (pv 0) rfl)),_,rfl,g.b,c.B,dx,_,_,rfl,hb,C.bS,C.b5,rfl,q⟩
theorem ae4:bc ["self","price","many"] ["self","price","many"] (aX N0):=bw
theorem Ga.AQ(g:Ga)(b:ai):bQ ([(Sum.inr "buy",.ref g.lb),(Sum.inr "sell",.ref g.ls)]:aa (Key×V)) (Sum.inr (aH b))=some (.ref (g.at b)):=by
 cases b
 ·rfl
 ·rfl
theorem Tr:bc ["self","side","entries"] ["self","side"] (aX OD):=bw
noncomputable def yu(xs:aa Ent):V:=match xs with
 | []=>.aE
 |e::_=>.ref e.ea
inductive afM(c:Cs)(vs:List V)(H:Hp)(Q:VK)(_:XK):Prop
 |mk (g:Ga) (B:Bk) (b:Bool) (_:vs= [.ref g.b,.str (aH b)]) (_:Rep c H g B) (_:Q (yu (B.at b)) H)
theorem RK(C:bR K mg c)(F:da K mg a c):Kp P w K mg base 1 a.first ["self","side"] (afM c):=F.first.kp λfd G=>by
 refine G.bT Tr λ_ _ _ _ H _ _ _ hr h=>?_
 obtain⟨g,B,b,rfl,R,q⟩:=h
 have hu:=fc hr
 obtain⟨dx,hb⟩:=R.ob
 have hl:=R.ls b
 refine⟨_,az (aZ 2 Tr.nd (uJ hu (aT (pv 0) rfl) (pv 1) (λ_ _=>rfl)))
  (az (bK (bC cQ (c9 A5 (by rfl) C.len (by decide+kernel) (av (pv 2) ay)) aF (a9 _)) (aD (a8 g_)) bZ)
  (aD (a8 (cv g9 (pv 2) aF (λ_ _=>rfl))))),?_⟩
 refine(rX rfl (rA g.b c.B dx rfl hb C.bS C.b2 rfl (rX rfl ⟨g.ds,.ref (g.at b),rfl,(by have:=fO.k (H:=H) (k:=Sum.inr (aH b)) R.ds;rw[Ga.AQ]at this;exact this),?_⟩)))
 refine(rX rfl ⟨g.at b,rX rfl ⟨.inl (aK.of hl),rfl,rX rfl ?_⟩⟩)
 rw[bH]
 cases e:B.at b with
 |nil=>
  rw[e]at q
  exact bL q
 |cons x r=>
  rw[e]at q hl
  have d:decide (V.int (((x::r).length:Nat):Int)=V.int 0)=false:=by
   refine cW λz=>?_
   have:(((x::r).length:Nat):Int)=0:=by injection z
   rw[d5]at this
   omega
  rw[d]
  exact bF (rX rfl ⟨g.at b,_,_,.ref x.ea,rfl,rfl,aK.of hl,bf (j:=0) rfl,q⟩)
theorem aeN:bc ["self","side"] ["self","side"] (aX MR):=bw
inductive afJ(c:Cs)(vs:List V)(H:Hp)(Q:VK)(_:XK):Prop
 |mk (g:Ga) (B:Bk) (b:Bool) (_:vs= [.ref g.b,.str (aH b)]) (_:Rep c H g B) (_:∀l0 l,H l0=none->(upd H l0 (.lst [])) l=none->Q (.ref l) (upd (upd H l0 (.lst [])) l (.lst (refs (B.at b)))))
theorem Be(C:bR K mg c)(F:da K mg a c):Kp P w K mg base 1 a.entriesOf ["self","side"] (afJ c):=F.entriesOf.kp λfd G=>by
 refine G.bT aeN λ_ _ _ _ H _ _ _ hr h=>?_
 obtain⟨g,B,b,rfl,R,q⟩:=h
 have hu:=fc hr
 obtain⟨dx,hb⟩:=R.ob
 have hl:=R.ls b
 refine⟨_,aD (a8 (x9 zg2 (by rfl) C.list (by decide+kernel) (av (Br hu (aT (pv 0) rfl) (pv 1) (fW ay) ⟨rfl,rfl,rfl,rfl⟩) ay))),?_⟩
 refine(rX rfl (rA g.b c.B dx rfl hb C.bS C.b2 rfl ⟨g.ds,rfl,.inl ⟨_,.inl R.ds⟩,rX rfl ⟨(by rw[a7];show 0<=16777216;decide),λl0 h0=>⟨some (.ref (g.at b)),?_,?_⟩⟩⟩))
 ·have:=fO.k (H:=upd H l0 (.lst [])) (k:=Sum.inr (aH b)) (by rw[aw (a6 R.ds h0)];exact R.ds)
  rw[Ga.AQ]at this
  exact this
 ·exact⟨g.at b,_,rfl,.inl (aK.of (by rw[aw (a6 hl h0)];exact hl)),λl h1=>q l0 l h0 h1⟩
end
end Fb
namespace L2
open PySem PySem.Spec PyProof.Rows
theorem zkZ{n:Nat}{xs:aa V}{g:TG}{tc:TT}{te:TE}{Q:VK}(f:V->ae V)(hS:aK K H a xs)(hl:xs.length<=sizeLine)
  (hs:∀(i:Nat) (x:V),xs[i]?=some x->∀(R1:V->Hp->Prop) (R0:Hp->Prop),(∀y,f x=some y->R1 y H)->(f x=none->R0 H)->g x (List.replicate n none) H λσ2 H2=>tc σ2 H2 λb H3=>if b=true then te σ2 H3 R1 else R0 H3)
  (hq:∀p,H p=none->Q (.ref p) (upd H p (.lst (xs.filterMap f)))):
  ∃W:Nat->Nat->aa V->Hp->Prop,(∃m,W 0 m [] H)/\∀i m ys H,W i m ys H->ys.length<=sizeLine/\
   (((fZ K a).stop i H/\∀p,H p=none->Q (.ref p) (upd H p (.lst ys)))\/
    ((fZ K a).go i H/\∀x H',(fZ K a).kF i H x H'->g x (List.replicate n none) H' λσ2 H2=>tc σ2 H2 λb H3=>if b=true then te σ2 H3 λy H4=>∃m',m'<m/\W (i+1) m' (ys++ [y]) H4 else ∃m',m'<m/\W (i+1) m' ys H3)):=by
 refine⟨λi m ys H'=>H'=H/\i<=xs.length/\m=xs.length-i/\ys=(xs.take i).filterMap f,(rX rfl ⟨dD _,rfl,by simp⟩),?_⟩
 rintro i m ys H' ⟨rfl,hi,rfl,rfl⟩
 refine⟨eA (List.length_filterMap_le _ _) (eA (by rw[iT];omega) hl),?_⟩
 by_cases bq:i<xs.length
 ·refine .inr ⟨⟨xs,xs[i],hS,by simp[bq]⟩,λx kP hy=>?_⟩
  obtain⟨e,hx⟩:=hy
  subst e
  have hx:=hx xs hS
  have tk:xs.take (i+1)=xs.take i++ [x]:=by
   rw[sD,hx]
   rfl
  refine hs i x hx _ _ (λy hy=>⟨xs.length- (i+1),by omega,rfl,bq,rfl,?_⟩) (λhn=>⟨xs.length- (i+1),by omega,rfl,bq,rfl,?_⟩)
  ·rw[tk,B5]
   simp[hy]
  ·rw[tk,B5]
   simp[hn]
 ·have e:i=xs.length:=by omega
  subst e
  refine .inl ⟨⟨xs,hS,bu _⟩,λp hp=>?_⟩
  rw[kL]
  exact hq p hp
end L2
namespace Fb
open PySem L2
section
variable {bW:ah} {a:c_}
theorem aL.rep(s:aL H H')(R:Rep c H g B):Rep c H' g B:=by
 obtain⟨⟨d1,h1⟩,⟨d2,h2⟩,h3,h4,h5,h6,⟨kvs,h7,h8⟩,h9⟩:=R
 refine⟨⟨d1,s _ _ h1⟩,⟨d2,s _ _ h2⟩,s _ _ h3,λb=>s _ _ (h4 b),h5,h6,⟨kvs,s _ _ h7,h8⟩,λb e he=>?_⟩
 obtain⟨⟨dx,en⟩,⟨dy,od⟩,rk⟩:=h9 b e he
 exact⟨⟨dx,s _ _ en⟩,⟨dy,s _ _ od⟩,s _ _ rk⟩
theorem aQ{a:ah}{o:HO}(h:H a=none):aL H (upd H a o):=λb u e=>by
 rw[aw (a6 e h)]
 exact e
noncomputable abbrev qe(xs:aa Ent):aa V:=xs.map λe=>.int e.num
theorem ae5:bc ["self","side"] ["self","side"] (aX Ny):=bw
inductive agb(c:Cs)(vs:List V)(H:Hp)(Q:VK)(_:XK):Prop
 |mk (g:Ga) (B:Bk) (b:Bool) (_:vs= [.ref g.b,.str (aH b)]) (_:Rep c H g B) (_:(B.at b).length<=1000) (_:∀l H',aL H H'->H l=none->H' l=some (.lst (qe (B.at b)))->Q (.ref l) H')
theorem abX(C:bR K mg c)(F:da K mg a c):Kp P w K mg base 2 a.uf ["self","side"] (agb c):=F.uf.kp λfd G=>by
 obtain⟨cK,G1,b1,k1⟩:=Be (P:=P) (w:=w) (base:=base) C F
 refine G.bT ae5 λ_ _ _ _ H _ _ _ hr h=>?_
 obtain⟨g,B,b,rfl,R,hlen,q⟩:=h
 obtain⟨dx,hb⟩:=R.ob
 refine⟨_,aD (a8 (ou (own:=["entry"]) (caps:=[]) (g:=cT 0) (tc:=jy) (te:=i9 K (i9 K (aW 0) "order") "number") rfl (by decide+kernel) (λp hp=>absurd hp (by simp)) (by decide+kernel) rfl (by decide+kernel) (gz (d0 (pv 0) C.bS F.xb G1 hr b1 .nil cO (av (pv 1) ay)))
  (λ_ _ _ _ _=>eO (i:=0) (show(["entry"]:aa Str).Nodup by decide+kernel) rfl (Or.inl (bV rfl)) (Or.inr (bV rfl))) (λ_ _ _ _ _=>yx) (λ_ _ _ _ _=>aT (aT (pv 0 rfl (.inl (bV rfl))) rfl) rfl))),?_⟩
 refine⟨[],rfl,λj p hp=>absurd hp (by simp),_,rfl,g.b,dx,_,rfl,hb,rfl,_,rfl,g,B,b,rfl,R,λl0 l h0 h1=>⟨l,rfl,⟨_,aK.of aB⟩,?_⟩⟩
 have s2:aL H (upd (upd H l0 (.lst [])) l (.lst (refs (B.at b)))):=(aQ h0).trans (aQ h1)
 have R2:=aL.rep s2 R
 have ln:H l=none:=(aQ (o:=.lst []) h0).free h1
 refine zkZ (n:=1) (λv=>(B.at b).findSome? λe=>if v= .ref e.ea then some (.int e.num)else none) (aK.of aB) (by rw[bH,a7];omega) (λi x hx R1 R0 y1 y0=>?_) (λp hp=>?_)
 ·rw[fN]at hx
  cases ex:(B.at b)[i]? with
  |none=>
   rw[ex]at hx
   cases hx
  |some e=>
   rw[ex]at hx
   obtain rfl:V.ref e.ea=x:=cq hx
   have me:=d6 ex
   have ek:=R2.en b e me
   obtain⟨de,he⟩:=ek.en
   obtain⟨md,ho⟩:=ek.od
   show i9 K (i9 K (aW 0) "order") "number" _ _ R1
   refine(rX rfl (rA e.ea c.E de rfl he C.bM C.e1 rfl (rA e.oa c.O md rfl ho C.cN C.o7 rfl (y1 _ ?_))))
   have:∀xs:aa Ent,(∀z∈xs,jk c _ z)->e∈xs->(xs.findSome? λz=>if V.ref e.ea= .ref z.ea then some (V.int z.num)else none)=some (V.int e.num):=λxs=>by
    induction xs with
    |nil=>intro _ h;simp at h
    |cons z r ih=>
     intro hz hm
     rw[List.findSome?_cons]
     by_cases hh:V.ref e.ea=V.ref z.ea
     ·rw[aA hh]
      have:e.num=z.num:=jk.y_ ek (hz z bA) (by injection hh)
      rw[this]
     ·rw[ax hh]
      refine ih (λy hy=>hz y (cE _ hy)) ?_
      rcases hZ.mp hm with rfl|hm
      ·exact absurd rfl hh
      ·exact hm
   exact this (B.at b) (λz hz=>R2.en b z hz) me
 ·refine q p _ (s2.trans (aQ hp)) (s2.free hp) ?_
  rw[aB]
  have:(refs (B.at b)).filterMap (λv=>(B.at b).findSome? λe=>if v= .ref e.ea then some (.int e.num)else none)=qe (B.at b):=by
   have gen:∀xs ys:aa Ent,(∀z∈xs,z∈ys)->(∀z∈ys,jk c (upd (upd H l0 (.lst [])) l (.lst (refs (B.at b)))) z)->(refs xs).filterMap (λv=>ys.findSome? λe=>if v= .ref e.ea then some (V.int e.num)else none)=qe xs:=by
    intro xs ys
    induction xs with
    |nil=>intros;rfl
    |cons e r ih=>
     intro pC hk
     have me:=pC e bA
     have fs:∀zs:aa Ent,(∀z∈zs,z∈ys)->e∈zs->(zs.findSome? λz=>if V.ref e.ea= .ref z.ea then some (V.int z.num)else none)=some (V.int e.num):=λzs=>by
      induction zs with
      |nil=>intro _ h;simp at h
      |cons z r ih2=>
       intro hz hm
       rw[List.findSome?_cons]
       by_cases hh:V.ref e.ea=V.ref z.ea
       ·rw[aA hh]
        have:e.num=z.num:=jk.y_ (hk e me) (hk z (hz z bA)) (by injection hh)
        rw[this]
       ·rw[ax hh]
        refine ih2 (λy hy=>hz y (cE _ hy)) ?_
        rcases hZ.mp hm with rfl|hm
        ·exact absurd rfl hh
        ·exact hm
     show List.filterMap _ (V.ref e.ea::refs r)=V.int e.num::qe r
     rw[sx,fs ys (λ_ h=>h) me]
     show V.int e.num::_=_
     rw[ih (λz hz=>pC z (cE _ hz)) hk]
   exact gen _ _ (λ_ h=>h) λz hz=>R2.en b z hz
  rw[this]
end
open PySem L2
section
variable {bW:ah} {a:c_}
theorem Tu:bc ["self","entry","entries"] ["self","entry"] (aX LI):=bw
inductive TL(c:Cs)(vs:List V)(H:Hp)(Q:VK)(_:XK):Prop
 |mk (g:Ga) (B:Bk) (e:Ent) (dx dy:Addr) (sh:Int) (rk:V) (_:vs= [.ref g.b,.ref e.ea]) (_:Rep c H g B) (_:(∀b,eN (B.at b))) (_:(B.aU.length+B.aV.length<=500)) (_:H e.ea=some (.ins c.E dx (cY e.oa e.left sh rk))) (_:H e.oa=some (.ins c.O dy (fh e.owner (aH e.au) (some e.ar) e.many e.shows "rest" (.int e.num)))) (_:(∀b,∀x∈B.at b,x.num≠e.num)) (_:∀r H',Rep c H' g (B.put e r)->(∀a o,H a=some o->¬bI g B a->a≠e.ea->H' a=some o)->Q .aE H')
theorem m_(B:Bk)(b:ai):(B.at b).length<=B.aU.length+B.aV.length:=by
 unfold Bk.at
 cases b<;>simp
theorem RO(C:bR K mg c)(F:da K mg a c):Kp P w K mg base 2 a.put ["self","entry"] (TL c):=F.put.kp λfd G=>by
 obtain⟨cK,G1,b1,k1⟩:Kp P w K mg base 1 a.uo ["self","place"] (TN c):=F.uo.kp λfd G=>adA G C
 obtain⟨dG,G2,b2,k2⟩:Kp P w K mg base 1 a.pN ["self"] (LU c):=F.pN.kp λfd G=>Wg G C
 obtain⟨gY,G3,b3,k3⟩:Kp P w K mg base 1 a.find ["entries","rank"] (LS c):=F.find.kp λfd G=>Wh G C
 refine G.bT Tu λ_ _ _ _ H _ _ _ hr h=>?_
 obtain⟨g,B,e,dx,dy,sh,rk,rfl,R,so,hlen,bp,cR,hn,q⟩:=h
 have hu:=fc hr
 obtain⟨dxb,hb⟩:=id R.ob
 obtain⟨kvs,cw,dg,qC,iN,gq⟩:=id R.de
 have hl:=R.ls e.au
 refine⟨_,az (cP (d0 (pv 1) C.bM F.Sl G1 hr b1 .nil cO (av (aT (pv 0) rfl) ay)))
  (az (cP (m8 (pv 1) C.bM F.Fy G2 hr b2 .nil cO))
  (az (rH (pv 0) aF OL)
  (az (aZ 2 Tu.nd (uJ hu (aT (pv 0) rfl) (aT (aT (pv 1) rfl) rfl) (λ_ _=>rfl)))
  (az (cP (lX l8 PySem.F.slot_list_insert PySem.F.type_list_insert zj2 (pv 2) (av (bG G3 hr F.ph k3 b3 (av (pv 2) (av (aT (pv 1) rfl) ay))) (av (pv 1) ay))))
  (aD (gQ hu (aT (pv 0) rfl) (aT (aT (pv 1) rfl) rfl) (pv 1) rfl)))))),?_⟩
 have be:g.b≠e.ea:=aN 3 1 hb bp
 refine(rX rfl ⟨e.ea,dx,rX rfl ⟨bp,rfl,rX rfl (rA g.b c.B dxb rfl hb C.bS C.b4 rfl ⟨e.ea,dx,e.oa,dy,B.places,e.left,sh,rk,e.owner,e.au,e.ar,e.many,e.shows,"rest",.int e.num,rfl,bp,cR,λr Ra=>?_⟩)⟩⟩)
 have fr:∀{x:ah} {o:HO},H x=some o->x≠r:=λh=>a6 h Ra
 have oe:e.oa≠e.ea:=aN 2 1 cR bp
 have QX:∀u v,upd (upd H r u) e.ea v e.oa=some (.ins c.O dy (fh e.owner (aH e.au) (some e.ar) e.many e.shows "rest" (.int e.num))):=λu v=>by rw[aw oe,aw (fr cR)];exact cR
 refine(rX rfl ⟨e.ea,dx,rX rfl ⟨aB,rfl,e.ea,dx,e.oa,dy,e.left,sh,.ref r,e.owner,aH e.au,some e.ar,e.many,e.shows,"rest",.int e.num,rfl,aB,QX _ _,?_⟩⟩)
 rw[fb]
 have fm:∀u v,upd (upd H r u) e.ea v g.b=some (.ins c.B dxb (nh g.nb g.ds g.de B.places B.aY B.last B.bE)):=λu v=>by rw[aw be,aw (fr hb)];exact hb
 refine⟨_,rfl,g.b,c.B,dxb,_,_,rfl,fm _ _,C.bS,C.b4,rfl,_,_,rfl,rfl,dxb,_,fm _ _,(by show 7<1000;decide),?_⟩
 have db:g.ds≠g.b:=aN 6 3 R.ds hb
 have dE:g.ds≠e.ea:=aN 6 1 R.ds bp
 have ob:e.oa≠g.b:=aN 2 3 cR hb
 have tE:∀u v z,upd (upd (upd H r u) e.ea v) g.b z g.ds=some (.dK [(Sum.inr "buy",.ref g.lb),(Sum.inr "sell",.ref g.ls)]):=λu v z=>by rw[aw db,aw dE,aw (fr R.ds)];exact R.ds
 have D7:∀u v z,upd (upd (upd H r u) e.ea v) g.b z e.ea=some v:=λu v z=>by rw[aw be.symm,aB]
 have QY:∀u v z,upd (upd (upd H r u) e.ea v) g.b z e.oa=some (.ins c.O dy (fh e.owner (aH e.au) (some e.ar) e.many e.shows "rest" (.int e.num))):=λu v z=>by rw[aw ob];exact QX u v
 refine(rX rfl (rA g.b c.B dxb rfl aB C.bS C.b2 rfl (rX rfl (rA e.ea c.E dx rfl (D7 _ _ _) C.bM C.e1 rfl (rA e.oa c.O dy rfl (QY _ _ _) C.cN C.o2 rfl ⟨g.ds,.ref (g.at e.au),rfl,?_,?_⟩)))))
 ·have:=fO.k (k:=Sum.inr (aH e.au)) (tE (.tup [.int e.k1,.int B.places]) (.ins c.E dx (cY e.oa e.left (cp e.shows e.left) (.ref r))) (.ins c.B dxb (nh g.nb g.ds g.de (B.places+1) B.aY B.last B.bE)))
  rw[Ga.AQ]at this
  exact this
 have lb:g.at e.au≠g.b:=aN 5 3 hl hb
 have lE:g.at e.au≠e.ea:=aN 5 1 hl bp
 have ju:∀u v z,upd (upd (upd H r u) e.ea v) g.b z (g.at e.au)=some (.lst (refs (B.at e.au))):=λu v z=>by rw[aw lb,aw lE,aw (fr hl)];exact hl
 have rb:r≠g.b:=(fr hb).symm
 have rE:r≠e.ea:=(fr bp).symm
 refine(rX rfl ⟨.inl ⟨rfl,_,aK.of (ju _ _ _)⟩,rX rfl (rX rfl (rA e.ea c.E dx rfl (D7 _ _ _) C.bM C.e4 rfl ?_))⟩)
 refine⟨g.at e.au,r,B.at e.au,e.k1,B.places,fi {e with ra:=r,place:=B.places,shown:=cp e.shows e.left} (B.at e.au),rfl,ju _ _ _,?_,λx hx=>?_,eA (m_ B e.au) (by omega),Bq _ _,λi x hx=>MI {e with ra:=r,place:=B.places,shown:=cp e.shows e.left} (so e.au) i x hx,?_⟩
 ·rw[aw rb,aw rE,aB]
  rfl
 ·have k:=R.en _ x hx
  obtain⟨⟨dz,xe⟩,⟨dw,xo⟩,xr⟩:=id k
  have Ms:x.ea≠e.ea:=λz=>hn _ x hx (Wx k bp cR z)
  refine⟨⟨dz,?_⟩,⟨dw,?_⟩,?_⟩
  ·rw[aw (aN 1 3 xe hb),aw Ms,aw (fr xe)]
   exact xe
  ·rw[aw (aN 2 3 xo hb),aw (aN 2 1 xo bp),aw (fr xo)]
   exact xo
  ·rw[aw (aN 7 3 xr hb),aw (aN 7 1 xr bp),aw (fr xr)]
   exact xr
 refine(rX rfl ⟨g.at e.au,refs (B.at e.au),_,fi {e with ra:=r,place:=B.places,shown:=cp e.shows e.left} (B.at e.au),.ref e.ea,rfl,rfl,rfl,ju _ _ _,by rw[bH];exact Bq _ _,by rw[bH,a7];have:=m_ B e.au;omega,?_⟩)
 have lo:g.at e.au≠e.oa:=aN 5 2 hl cR
 have dl:g.de≠g.at e.au:=aN 6 5 cw hl
 have dB:g.de≠g.b:=aN 6 3 cw hb
 have XQ:g.de≠e.ea:=aN 6 1 cw bp
 refine⟨_,rfl,_,rfl,g.b,c.B,dxb,_,_,rfl,(by rw[aw lb.symm,aB]),C.bS,C.b3,rfl,_,rfl,e.ea,c.E,dx,_,_,rfl,(by rw[aw lE.symm];exact D7 _ _ _),C.bM,C.e1,rfl,e.oa,c.O,dy,_,_,rfl,(by rw[aw lo.symm];exact QY _ _ _),C.cN,C.o7,rfl,g.de,_,rfl,
  eS.k (k:=Sum.inl e.num) (kvs:=kvs) (by rw[aw dl,aw dB,aw XQ,aw (fr cw)];exact cw) (by rw[qC,a7];omega),?_⟩
 obtain⟨R',F'⟩:=aeo (dx:=dx) (dxb:=dxb) R bp cR hn Ra hb cw dg qC iN gq
 exact q r _ R' F'
end
open PySem L2
open PyProof.Rows (KTD.TextTab)
noncomputable def BS:aa (Str×PyProof.Rows.KTD.Dat):=[("buy",.flat (.str "sell")),("sell",.flat (.str "buy"))]
noncomputable def Tc(d:ah):R2:=λx y H Q=>x= .ref d/\∃b:ai,y= .str (aH b)/\Q (.str (aH (!b))) H
theorem abm{d:ah}(hT:PyProof.Rows.KTD.TextTab X.base d BS):vk X (Tc d):=by
 intro value slice pins s σ H x y v u Q I rx ry h hs
 obtain⟨rfl,b,rfl,q⟩:=h
 cases rx
 obtain⟨t,rfl⟩:=ry
 cases b with
 |true=>exact PyProof.Rows.KTD.item_textA ⟨hT,I.bk⟩ rfl (by decide+kernel) (show ∀t',EP X pins σ Q (.str "sell" t') {s with toks:=s.toks+1}from λt'=>⟨.str "sell",H,I.tok _,⟨t',rfl⟩,q⟩) hs
 |false=>exact PyProof.Rows.KTD.item_textA ⟨hT,I.bk⟩ rfl (by decide+kernel) (show _=_->∀t',EP X pins σ Q (.str "buy" t') {s with toks:=s.toks+1}from λ_ t'=>⟨.str "buy",H,I.tok _,⟨t',rfl⟩,q⟩) hs
end Fb
namespace L2
open PySem PySem.Spec PyProof.Rows
section
variable {g:Array GenState} {d:Drawn} {t:Nat} {os:OsState}
structure ki(K:W.Frag)(C:Addr):Prop where
 ga:W.findIn K (.ref C) "__getattribute__"=some (some (.builtin "BaseException.__getattribute__"))
 gt:W.findIn K (.ref C) "__getattr__"=some none
 cl:W.findIn K (.ref C) "__class__"=some (some (.builtin "object.__class__"))
 be:W.mroIn K C (.type "BaseException")=some true
 ob:W.mroIn K C (.type "object")=some true
theorem ahK(X:K.In h)(x:ki K C)(hx:h.get? a=some o)(hc:o.cls= .ref C)(hq:R (.ok (.ret (.ref C))) ⟨h,g,d,t,os⟩):
  codeAny (model prog w) A (.call (.builtin "getset_descriptor.__get__") ⟨[.builtin "object.__class__",.ref a,.ref C],[]⟩) R ⟨h,g,d,t,os⟩:=by
 have own:Shared.TypeIs ⟨h,g,d,t,os⟩ (.builtin "object.__class__") "getset_descriptor":=OR
 have LO:W.Looks (model prog w) h (isSubtype (.ref C) (.type (".".intercalate ("object.__class__".cutAt '.').dropLast))) true:=by
  rw[F.owner_object_class]
  exact W.looks_mroIn X x.ob
 have look:=F.slot_gs_get
 refine codeAny_call_builtin look.plain F.entry_gs_get (look.check _ _ _ _ _ _ _ _ own (F.args_gs_get _ _ _) ?_)
 repeat(any_goals(first|assumption| (with_reducible refine sL hx ?_;rw[hc]) |with_reducible refine LO.at ?_|wp_step))
 refine And.intro (Code.quiet_builtin _ (by decide+kernel)) (u_ F.entry_object_class ?_)
 repeat(any_goals(first|assumption| (with_reducible refine sL hx ?_;rw[hc]) |wp_step))
theorem ahJ{Q:Fin->ag->Prop}(X:K.In h)(x:ki K C)(hx:h.get? a=some o)(hc:o.cls= .ref C)(hq:Q (.done (.ret (.ref C))) ⟨h,g,d,t,os⟩):wpAny (model prog w) A (Builtin.«object.__getattribute__» ⟨[.ref a,.str "__class__" tk],[]⟩) Q E ⟨h,g,d,t,os⟩:=by
 have LC:=W.looks_findIn (M:=model prog w) X x.cl
 obtain⟨own,ty,rd,wr⟩:=And.intro (show Shared.TypeIs ⟨h,g,d,t,os⟩ (.builtin "object.__class__") "getset_descriptor" from OR) (And.intro OR (And.intro F.slot_gs_get.lookup F.slot_gs_set.lookup))
 repeat(any_goals(first|assumption| (with_reducible refine sL hx ?_;rw[hc]) |with_reducible refine LC.at ?_|wp_step))
 refine ahK X x hx hc ?_
 repeat(any_goals(first|with_reducible assumption|wp_step))
theorem ahI{nv:af}{Q:Unit->ag->Prop}(X:K.In h)(x:ki K C)(hx:h.get? a=some o)(hc:o.cls= .ref C)(hq:Q () ⟨h,g,d,t,os⟩):
  wpAny (model prog w) A (checkBuiltinCall "BaseException.__getattribute__" ⟨[.ref a,nv],[]⟩) Q E ⟨h,g,d,t,os⟩:=by
 have LB:=W.looks_mroIn (M:=model prog w) X x.be
 have kk:builtinKind "BaseException.__getattribute__"=some .slot:=(by decide+kernel)
 have ks:splitId "BaseException.__getattribute__"=some ("BaseException","__getattribute__"):=(by decide+kernel)
 have ha:=F.args_bexc_ga (.ref a) nv
 simp only[checkBuiltinCall,kk,ks]
 refine aC ?_
 unfold isInstance
 repeat(first| (with_reducible refine sL hx ?_;rw[hc]) |with_reducible refine LB.at ?_|wp_step)
 exact hq
theorem ahH{tk:Tok}(X:K.In h)(x:ki K C)(hx:h.get? a=some o)(hc:o.cls= .ref C)(hq:R (.ok (.ret (.ref C))) ⟨h,g,d,t,os⟩):
  codeAny (model prog w) A (.call (.builtin "BaseException.__getattribute__") ⟨[.ref a,.str "__class__" tk],[]⟩) R ⟨h,g,d,t,os⟩:=
 codeAny_call_builtin PySem.F.attr_ValueError.ga.plain F.entry_bexc_ga (ahI X x hx hc (ahJ X x hx hc hq))
theorem ahG{tk:Tok}{fill expr:ai}(X:K.In h)(x:ki K C)(hx:h.get? a=some o)(hc:o.cls= .ref C)(hq:Q (.ref C) ⟨h,g,d,t,os⟩):
  wpAny (model prog w) A (getAttrBy (.ref a) (.str "__class__" tk) fill expr) Q E ⟨h,g,d,t,os⟩:=by
 have LG:=W.looks_findIn (M:=model prog w) X x.ga
 have LT:=W.looks_findIn (M:=model prog w) X x.gt
 have f3:=PySem.F.attr_ValueError.ga.bind (.ref a)
 have off:(expr&&onTheHeap (.builtin "BaseException.__getattribute__"))=false:=Bool.and_false expr
 have apart:(onTheHeap (Value.ref C)&&Value.builtin "BaseException.__getattribute__"==Value.builtin "object.__getattribute__")=false:=by
  rw[show(Value.builtin "BaseException.__getattribute__"==Value.builtin "object.__getattribute__")=false by decide+kernel,Bool.and_false]
 have apart2:=show(Value.builtin "BaseException.__getattribute__"==Value.builtin "object.__getattribute__")=false by decide+kernel
 repeat(any_goals(first|assumption| (with_reducible refine sL hx ?_;rw[hc]) |with_reducible refine LG.at ?_|with_reducible refine LT.at ?_|wp_step))
 refine ahH X x hx hc ?_
 repeat(any_goals(first|with_reducible assumption|wp_step))
theorem ahF{Q:ae af->ag->Prop}(X:K.In h)(x:ki K C)(hx:h.get? a=some o)(hc:o.cls= .ref C)(hq:Q (some (.ref C)) ⟨h,g,d,t+1,os⟩):wpAny (model prog w) A (getAttr? (.ref a) "__class__") Q E ⟨h,g,d,t,os⟩:=by
 unfold getAttr? getAttrBy?
 repeat(any_goals(first|assumption|with_reducible apply ahG X x hx hc|wp_step))
end
noncomputable def Xl(a C:ah)(h:aj):Prop:=∃o,h.get? a=some o/\o.cls= .ref C
theorem acg(hC:iD K C)(x:ki K C):W.KitX K (.ref a) (.ref C) (Xl a C):=by
 obtain⟨bm,N,nm,qn,bs,hdct,sn,sub,ab,col,dd,k0,k1,k2,k3,k5,lC,tC,_,_⟩:=A4 hC
 refine⟨λM h X p=>?_,λM h X p=>?_,λh tp dd its n sl X mJ=>?_,λ{prog w A E Q s} X p q=>?_⟩
 ·obtain⟨o,h1,h2⟩:=p
  exact h2▸(W.Looks.ld h1).andThen .now
 ·intro A' Q' E' s' k q
  unfold isType loadHead
  exact aC (wpAny_loadPart (k _ _ (X _ _ lC)) (aR q))
 ·refine Bool.eq_false_iff.mpr λq=>?_
  have e:C=tp:=Value.ref.inj (beq_iff_eq.mp q)
  subst e
  have z2:Value.type "type"=Value.type "tuple":=dA (λo:ae Obj=>match o with|some o=>o.cls|none=>.none) ((X _ _ lC).symm.trans mJ)
  exact absurd z2 (by decide)
 ·obtain⟨hh,gg,gX,tt,oss⟩:=s
  obtain⟨o,h1,h2⟩:=p
  exact ahF X x h1 h2 q
noncomputable def cV:V->af
 | .ty n=>.type n
 | .ref a=>.ref a
 |_=>.none
section
theorem kH:jf X (.builtin "isinstance") (λxs H Q=>∃x c k,xs= [x,c]/\(RelV c (cV c))/\
  ((∃t,iV X.K H x t/\W.kitOne X.K t (cV c)=some k)\/∃a C,x= .ref a/\H a=some (jO a C)/\iD X.K C/\ki X.K C/\W.kitOne X.K (.ref C) (cV c)=some k)/\Q (.bl k) H):=by
 intro pins s σ H xs us Q I r h
 obtain⟨x,c,k,rfl,hc,h,q⟩:=h
 obtain⟨u,u2,rfl,rx,rc⟩:=vals2 r
 have ec:u2=cV c:=by
  cases c with
  |ty n=>cases rc;rfl
  |ref a=>cases rc;rfl
  |aE=>cases rc;rfl
  |bl b=>cases hc
  |int i=>obtain⟨_,z⟩:=hc;cases z
  |str z=>obtain⟨_,z⟩:=hc;cases z
  |iF z=>obtain⟨_,z⟩:=hc;cases z
  |nH z=>obtain⟨_,z⟩:=hc;cases z
 subst ec
 rcases h with⟨t,ty,e⟩ | ⟨a,C,rfl,ha,xC,xL,e⟩
 ·exact zkt I rx ty e λtk=>⟨.bl k,H,I.tok _,rfl,q⟩
 ·cases rx
  obtain⟨⟨o,vs,h1,h2,_⟩,_⟩:=I.aI a _ ha
  exact kO (acg xC xL) I.dS ⟨o,h1,h2⟩ e (λz=>nomatch z) λtk=>⟨.bl k,H,I.tok _,rfl,q⟩
end
end L2
namespace Fb
open PySem L2
theorem bY{k:ai}{A B:Prop}(h:k=true)(x:A):if k=true then A else B:=by
 rw[aA h]
 exact x
theorem bj{k:ai}{A B:Prop}(h:k=false)(x:B):if k=true then A else B:=by
 rw[ax (by rw[h];exact cb)]
 exact x
section
variable {bW:ah} {a:c_}
noncomputable def B0:Bk:=⟨[],[],0,0,false,none,0⟩
theorem acO(x y:V):qb [] [(Sum.inr "buy",x),(Sum.inr "sell",y)]=([(Sum.inr "buy",x),(Sum.inr "sell",y)]:aa (Key×V)):=by rfl
theorem aeC:bc ["self"] ["self"] (aX MY):=bw
inductive afp(c:Cs)(vs:List V)(H:Hp)(Q:VK)(_:XK):Prop
 |mk (p dx:Addr) (_:vs= [.ref p]) (_:H p=some (.ins c.B dx [])) (_:∀(g:Ga) (H':Hp),g.b=p->Rep c H' g B0->(∀x o,H x=some o->x≠p->H' x=some o)->(∀x,bI g B0 x->x=p\/H x=none)->Q .aE H')
theorem zkr(C:bR K mg c)(F:da K mg a c):Kp P w K mg base 3 a.sR ["self"] (afp c):=F.sR.kp λfd G=>by
 obtain⟨cK,G1,b1,k1⟩:Kp P w K mg base 1 a.ua ["self"] (TJ c):=F.ua.kp λfd G=>ady G C
 refine G.bT aeC λ_ _ _ _ H _ _ _ hr h=>?_
 obtain⟨p,dx,rfl,hp,q⟩:=h
 refine⟨_,az (dW (pv 0) (VP F.mkNum G1 hr rfl C.mgN b1 .nil cO) rfl)
  (az (dW (pv 0) (BB (iQ aJ (fW ay) (iQ aJ (fW ay) BJ)) rfl rfl (by simp) (by decide)) rfl)
  (az (dW (pv 0) VQ rfl)
  (az (dW (pv 0) aF rfl) (az (dW (pv 0) iA rfl) (az (dW (pv 0) g_ rfl) (aD (dW (pv 0) aF rfl))))))),?_⟩
 have z0:([]:aa V).length<=sizeLine:=by rw[a7];decide
 intro nb dn mG wk dc
 have mV:p≠nb:=a6 hp mG
 have pdn:p≠dn:=a6 hp wk
 refine⟨nb,dn,rfl,aB,rfl,_,rfl,p,c.B,dx,[],rfl,(by rw[aw mV,aw mV,aw pdn];exact hp),C.bS,C.b1,(by show 0<1000;decide),?_⟩
 intro ds tE
 have ro:p≠ds:=a6 aB tE
 have t5:nb≠ds:=a6 (by rw[aw mV.symm,aB]) tE
 refine⟨z0,λlb wz=>⟨z0,λls eI=>?_⟩⟩
 have y7:ds≠lb:=a6 aB wz
 have xE:p≠lb:=a6 (by rw[aw ro,aB]) wz
 have FL:nb≠lb:=a6 (by rw[aw t5,aw mV.symm,aB]) wz
 have C6:lb≠ls:=a6 aB eI
 have Dp:ds≠ls:=a6 (by rw[aw y7,aB]) eI
 have AD:p≠ls:=a6 (by rw[aw xE,aw ro,aB]) eI
 have Ao:nb≠ls:=a6 (by rw[aw FL,aw t5,aw mV.symm,aB]) eI
 refine⟨(by rw[aw Dp,aw y7,aB]),[(Sum.inr "buy",.ref lb),(Sum.inr "sell",.ref ls)],rfl,(by show 2<=15;decide),_,rfl,p,c.B,dx,_,rfl,(by rw[aw ro,aw AD,aw xE,aw ro,aB]),C.bS,C.b2,(by show 1<1000;decide),?_⟩
 rw[acO]
 intro de qA
 have S4:p≠de:=a6 aB qA
 have TB:ds≠de:=a6 (by rw[aw ro.symm,aB]) qA
 have sld:ls≠de:=a6 (by rw[aw AD.symm,aw Dp.symm,aB]) qA
 have XA:lb≠de:=a6 (by rw[aw xE.symm,aw y7.symm,aw C6,aB]) qA
 have nde:nb≠de:=a6 (by rw[aw mV.symm,aw t5,aw Ao,aw FL,aw t5,aw mV.symm,aB]) qA
 refine(rX rfl ⟨p,c.B,dx,rX rfl ⟨(by rw[aw S4,aB]),C.bS,C.b3,(by show 2<1000;decide),?_⟩⟩)
 refine(rX rfl ⟨p,c.B,dx,rX rfl ⟨aB,C.bS,C.b4,(by show 3<1000;decide),?_⟩⟩)
 refine(rX rfl ⟨p,c.B,dx,rX rfl ⟨aB,C.bS,C.b5,(by show 4<1000;decide),?_⟩⟩)
 refine(rX rfl ⟨p,c.B,dx,rX rfl ⟨aB,C.bS,C.b6,(by show 5<1000;decide),?_⟩⟩)
 refine(rX rfl ⟨p,c.B,dx,rX rfl ⟨aB,C.bS,C.b7,(by show 6<1000;decide),?_⟩⟩)
 rw[fb,fb,fb,fb]
 refine q ⟨p,nb,ds,lb,ls,de⟩ _ rfl ⟨⟨dx,aB⟩,⟨dn,?_⟩,?_,λb=>?_,C6,TB.symm,⟨[],?_,sC,rfl,λb e he=>?_,λn v hv=>?_⟩,λb e he=>?_⟩ (λx o hx pE=>?_) λx hx=>?_
 ·show upd _ p _ nb=_
  rw[aw mV.symm,aw nde,aw mV.symm,aw t5,aw Ao,aw FL,aw t5,aw mV.symm,aB]
  rfl
 ·show upd _ p _ ds=_
  rw[aw ro.symm,aw TB,aw ro.symm,aB]
 ·cases b
  ·show upd _ p _ ls=some (.lst [])
   rw[aw AD.symm,aw sld,aw AD.symm,aw Dp.symm,aB]
  ·show upd _ p _ lb=some (.lst [])
   rw[aw xE.symm,aw XA,aw xE.symm,aw y7.symm,aw C6,aB]
 ·show upd _ p _ de=_
  rw[aw S4.symm,aB]
 ·cases b<;>exact absurd he (by simp[Bk.at,B0])
 ·cases hv
 ·cases b<;>exact absurd he (by simp[Bk.at,B0])
 ·have uy:x≠nb:=a6 hx mG
  have Mr:x≠dn:=a6 hx wk
  have h1:∀u,upd (upd (upd (upd H dn (.own nb)) nb (.ins c.N dn [])) nb (.ins c.N dn (mS 0))) p u x=some o:=λu=>by
   rw[aw pE,aw uy,aw uy,aw Mr]
   exact hx
  have lO:x≠ds:=a6 (h1 _) tE
  have rF:x≠lb:=a6 (by rw[aw lO];exact h1 _) wz
  have xR:x≠ls:=a6 (by rw[aw rF,aw lO];exact h1 _) eI
  have Mq:x≠de:=a6 (by rw[aw pE,aw lO,aw xR,aw rF,aw lO];exact h1 _) qA
  rw[aw pE,aw Mq,aw pE,aw lO,aw xR,aw rF,aw lO]
  exact h1 _
 ·cases Fc:H x with
  |none=>exact .inr rfl
  |some o=>
   refine .inl (yA λpE=>?_)
   have uy:x≠nb:=a6 Fc mG
   have Mr:x≠dn:=a6 Fc wk
   have h1:∀u,upd (upd (upd (upd H dn (.own nb)) nb (.ins c.N dn [])) nb (.ins c.N dn (mS 0))) p u x=some o:=λu=>by
    rw[aw pE,aw uy,aw uy,aw Mr]
    exact Fc
   have lO:x≠ds:=a6 (h1 _) tE
   have rF:x≠lb:=a6 (by rw[aw lO];exact h1 _) wz
   have xR:x≠ls:=a6 (by rw[aw rF,aw lO];exact h1 _) eI
   have Mq:x≠de:=a6 (by rw[aw pE,aw lO,aw xR,aw rF,aw lO];exact h1 _) qA
   rcases hx with h|h|h|h|h| ⟨b,e,he,_⟩
   ·exact pE h
   ·exact uy h
   ·exact rF h
   ·exact xR h
   ·exact Mq h
   ·cases b<;>exact absurd he (by simp[Bk.at,B0])
end
open PySem L2
structure Cz where
 place:Addr
 may:Addr
 count:Addr
 tY:Addr
 next:Addr
 other:Addr
structure oY(K:W.Frag)(mg:Str->Option Value)(d:Cz):Prop where
 place:Dn K "place" "place" OB d.place ["book","owner","side","price","many","shows","way"]
 vS:mg "place"=some (.ref d.place)
 may:Dn K "may_meet" "may_meet" LD d.may ["book","order"]
 P8:mg "may_meet"=some (.ref d.may)
 count:Dn K "count_suiting" "count_suiting" Og d.count ["book","order"]
 P1:mg "count_suiting"=some (.ref d.count)
 tY:Dn K "meet_all" "meet_all" NA d.tY ["book","coming"]
 P9:mg "meet_all"=some (.ref d.tY)
 next:Dn K "next_to_meet" "next_to_meet" LH d.next ["book","coming"]
 DJ:mg "next_to_meet"=some (.ref d.next)
 DK:mg "OTHER_SIDE"=some (.ref d.other)
 other:PyProof.Rows.KTD.tabLook (PyProof.Rows.KTD.datLooks λb=>K.lookup b) (λb=>K.lookup b) d.other BS=true
theorem U9{d:ah}(e:PyProof.Rows.KTD.tabLook (PyProof.Rows.KTD.datLooks λb=>X.K.lookup b) (λb=>X.K.lookup b) d BS=true):vk X (Tc d):=by
 intro value slice pins s σ H x y v u Q I rx ry h hs
 exact abm (W.kt_text_in I.mod.qY e) value slice pins s σ H x y v u Q I rx ry h hs
theorem Kp.imp{k:Nat}{xK:Sp}(h:Kp P w K mg base k f ps sp)(hi:∀vs H Q E,xK vs H Q E->sp vs H Q E):Kp P w K mg base k f ps xK:=
 let⟨fd,F,b,q⟩:=h;⟨fd,F.imp hi,b,q⟩
noncomputable def gM(owner:Int)(b:ai)(ar:ae Int):aa Ent->Int
 | []=>0
 |e::r=>(if cy e.ar (aH b) ar=true/\e.owner≠owner then e.left else 0)+gM owner b ar r
theorem Bx(owner:Int)(b:ai)(ar:ae Int)(e:Ent):∀xs:aa Ent,gM owner b ar (xs++ [e])=gM owner b ar xs+(if cy e.ar (aH b) ar=true/\e.owner≠owner then e.left else 0)
 | []=>by simp[gM]
 |x::r=>by
  show _+gM owner b ar (r++ [e])=_+gM owner b ar r+_
  rw[Bx owner b ar e r]
  omega
section
variable {bW:ah} {a:c_} {d:Cz}
theorem AK:bc ["book","order","found","entry"] ["book","order"] (aX Og):=bw
inductive afD(c:Cs)(vs:List V)(H:Hp)(Q:VK)(_:XK):Prop
 |mk (g:Ga) (B:Bk) (o dy:Addr) (owner:Int) (b:Bool) (ar:Option Int) (many:Int) (shows:Option Int) (way:Str) (num:V) (_:vs= [.ref g.b,.ref o]) (_:Rep c H g B) (_:H o=some (.ins c.O dy (fh owner (aH b) ar many shows way num))) (_:∀H',aL H H'->Q (.int (gM owner b ar (B.at (!b)))) H')
theorem abA(C:bR K mg c)(F:da K mg a c)(D:oY K mg d):Kp P w K mg base 2 d.count ["book","order"] (afD c):=D.count.kp λfd G=>by
 obtain⟨cK,G1,b1,k1⟩:=Be (P:=P) (w:=w) (base:=base) C F
 obtain⟨dG,G2,b2,k2⟩:Kp P w K mg base 1 a.i8 ["price","order"] (LV c):=F.i8.kp λfd G=>VR G C
 refine G.bT AK λ_ _ _ _ H _ _ _ hr h=>?_
 obtain⟨g,B,o,dy,owner,b,ar,many,shows,way,num,rfl,R,ho,q⟩:=h
 obtain⟨dx,hb⟩:=R.ob
 refine⟨_,az (aZ 2 AK.nd aF)
  (az (oI jG rfl (gz (d0 (pv 0) C.bS F.xb G1 hr b1 .nil cO (av (cv (U9 D.other) (rO D.DK) (aT (pv 1) rfl) (λ_ _=>rfl)) ay))) (eO (i:=3) AK.nd rfl (Or.inl rfl))
   (aD (bK (PW.pt (iR (e8 (bG G2 hr F.pj k2 b2 (av (aT (aT (pv 3) rfl) rfl) (av (pv 1) ay)))) (jD (bC hX (aT (aT (pv 3) rfl) rfl) (aT (pv 1) rfl) (a9 _)))))
    (aD (BP (i:=2) AK.nd rfl (Or.inl rfl) (aT (pv 3) rfl) RG)) bZ)))
  (aD (a8 (pv 2)))),?_⟩
 refine(rX rfl (rM g.b dx rfl hb rfl (rX rfl (rA o c.O dy rfl ho C.cN C.o2 rfl ⟨rfl,b,rfl,g,B,!b,rfl,R,λl0 l h0 h1=>⟨l,rfl,⟨_,aK.of aB⟩,?_⟩⟩))))
 have s2:aL H (upd (upd H l0 (.lst [])) l (.lst (refs (B.at (!b))))):=(aQ h0).trans (aQ h1)
 have R2:=aL.rep s2 R
 have qL:=s2 _ _ ho
 generalize DU:upd (upd H l0 (.lst [])) l (.lst (refs (B.at (!b))))=Hx at*
 have hl:Hx l=some (.lst (refs (B.at (!b)))):=by rw[<-DU,aB]
 refine yj (K:=K) (a:=l) (xs:=refs (B.at (!b))) (λi σ H2=>H2=Hx/\∃v,σ= [some (.ref g.b),some (.ref o),some (.int (gM owner b ar ((B.at (!b)).take i))),v]) ⟨rfl,none,rfl⟩ (λi σ H2 _ h=>by rw[h.1];exact aK.of hl) ?_ ?_
 ·rintro i y σ H2 hi ⟨rfl,v,rfl⟩
  rw[fN]at hi
  cases ex:(B.at (!b))[i]? with
  |none=>
   rw[ex]at hi
   cases hi
  |some e=>
   rw[ex]at hi
   obtain rfl:V.ref e.ea=y:=cq hi
   have me:=d6 ex
   have ek:=R2.en _ e me
   obtain⟨de,he⟩:=ek.en
   obtain⟨md,pA⟩:=ek.od
   have tk:(B.at (!b)).take (i+1)=(B.at (!b)).take i++ [e]:=by
    rw[sD,ex]
    rfl
   refine(rX rfl (rA e.ea c.E de rfl he C.bM C.e1 rfl (rA e.oa c.O md rfl pA C.cN C.o3 rfl (rX rfl ⟨e.ar,o,dy,owner,aH b,ar,many,shows,way,num,rfl,qL,rX rfl ?_⟩))))
   cases mI:cy e.ar (aH b) ar with
   |false=>
    refine bF (bF ⟨rfl,some (.ref e.ea),?_⟩)
    rw[tk,Bx,mI]
    simp
   |true=>
    refine bL (rX rfl (rA e.ea c.E de rfl he C.bM C.e1 rfl (rA e.oa c.O md rfl pA C.cN C.o1 rfl (rX rfl (rA o c.O dy rfl qL C.cN C.o1 rfl ⟨rfl,rX rfl ?_⟩)))))
    by_cases how:e.owner=owner
    ·refine Fh (by rw[how]) ⟨rfl,some (.ref e.ea),?_⟩
     rw[tk,Bx,mI]
     simp[how]
    ·have dd:(!decide (V.int e.owner=V.int owner))=true:=by simp[how]
     rw[dd]
     refine bL (rX rfl (rX rfl (rA e.ea c.E de rfl he C.bM C.e2 rfl (r2 rfl rfl ⟨rfl,some (.ref e.ea),?_⟩))))
     rw[tk,Bx,mI]
     simp[how]
 ·rintro σ H2 ⟨rfl,v,rfl⟩
  refine(rX rfl ?_)
  have:(B.at (!b)).take (refs (B.at (!b))).length=B.at (!b):=by rw[bH,kL]
  rw[this]
  exact q _ s2
theorem aeY:bc ["book","order"] ["book","order"] (aX LD):=bw
noncomputable def mQ(B:Bk)(owner:Int)(b:ai)(ar:ae Int)(many:Int)(way:Str):ai:=!decide (way="whole")||decide (many<=gM owner b ar (B.at (!b)))
inductive afX(c:Cs)(vs:List V)(H:Hp)(Q:VK)(_:XK):Prop
 |mk (g:Ga) (B:Bk) (o dy:Addr) (owner:Int) (b:Bool) (ar:Option Int) (many:Int) (shows:Option Int) (way:Str) (num:V) (_:vs= [.ref g.b,.ref o]) (_:Rep c H g B) (_:H o=some (.ins c.O dy (fh owner (aH b) ar many shows way num))) (_:∀H',aL H H'->Q (.bl (mQ B owner b ar many way)) H')
theorem abM(C:bR K mg c)(F:da K mg a c)(D:oY K mg d):Kp P w K mg base 3 d.may ["book","order"] (afX c):=D.may.kp λfd G=>by
 obtain⟨cK,G1,b1,k1⟩:=abA (P:=P) (w:=w) (base:=base) C F D
 refine G.bT aeY λ_ _ _ _ H _ _ _ hr h=>?_
 obtain⟨g,B,o,dy,owner,b,ar,many,shows,way,num,rfl,R,ho,q⟩:=h
 refine⟨_,aD (a8 (FT (je hX (aT (pv 1) rfl) aJ (a9 _)) (r_ (je Av (bG G1 hr D.P1 k1 b1 (av (pv 0) (av (pv 1) ay))) (aT (pv 1) rfl) (a9 _))))),?_⟩
 refine(rX rfl (rA o c.O dy rfl ho C.cN C.o6 rfl ⟨rfl,rX rfl ?_⟩))
 by_cases hw:way="whole"
 ·subst hw
  refine Fh rfl (rX rfl (rX rfl ⟨g,B,o,dy,owner,b,ar,many,shows,_,num,rfl,R,ho,λH' s1=>?_⟩))
  refine(rX rfl (rA o c.O dy rfl (s1 _ _ ho) C.cN C.o4 rfl (r2 rfl rfl ?_)))
  have:=q H' s1
  simpa [mQ]using this
 ·have dd:(!decide (V.str way=V.str ("whole":Str)))=true:=by simp[hw]
  rw[dd]
  refine bL ?_
  have:=q H (aL.refl H)
  simpa [mQ,hw]using this
noncomputable def eu(xs:aa Ent)(left:Int)(b:ai)(ar:ae Int):V:=match xs with
 | []=>.aE
 |e::_=>if left=0 then .aE else if cy e.ar (aH b) ar=true then .ref e.ea else .aE
theorem Tt:bc ["book","coming","other"] ["book","coming"] (aX LH):=bw
inductive af3(c:Cs)(vs:List V)(H:Hp)(Q:VK)(_:XK):Prop
 |mk (g:Ga) (B:Bk) (ea dx oa dy:Addr) (left sh:Int) (rk:V) (owner:Int) (b:Bool) (ar:Option Int) (many:Int) (shows:Option Int) (way:Str) (num:V) (_:vs= [.ref g.b,.ref ea]) (_:Rep c H g B) (_:H ea=some (.ins c.E dx (cY oa left sh rk))) (_:H oa=some (.ins c.O dy (fh owner (aH b) ar many shows way num))) (_:Q (eu (B.at (!b)) left b ar) H)
theorem abR(C:bR K mg c)(F:da K mg a c)(D:oY K mg d):Kp P w K mg base 2 d.next ["book","coming"] (af3 c):=D.next.kp λfd G=>by
 obtain⟨cK,G1,b1,k1⟩:=RK (P:=P) (w:=w) (base:=base) C F
 obtain⟨dG,G2,b2,k2⟩:Kp P w K mg base 1 a.i8 ["price","order"] (LV c):=F.i8.kp λfd G=>VR G C
 refine G.bT Tt λ_ _ _ _ _ _ _ _ hr h=>?_
 obtain⟨g,B,ea,dx,oa,dy,left,sh,rk,owner,b,ar,many,shows,way,num,rfl,R,he,ho,q⟩:=h
 obtain⟨dxb,hb⟩:=R.ob
 refine⟨_,az (aZ 2 Tt.nd (d0 (pv 0) C.bS F.Ai G1 hr b1 .nil cO (av (cv (U9 D.other) (rO D.DK) (aT (aT (pv 1) rfl) rfl) (λ_ _=>rfl)) ay)))
  (az (bK (PW.pt (jE (bC cQ (aT (pv 1) rfl) aF (a9 _)) (jz (gB (jA (pv 2)))))) (aD (a8 g_)) bZ)
  (az (bK (jd (e8 (bG G2 hr F.pj k2 b2 (av (aT (aT (pv 2) rfl) rfl) (av (aT (pv 1) rfl) ay))))) (aD (a8 g_)) bZ)
  (aD (a8 (pv 2))))),?_⟩
 refine(rX rfl (rM g.b dxb rfl hb rfl (rX rfl (rA ea c.E dx rfl he C.bM C.e1 rfl (rA oa c.O dy rfl ho C.cN C.o2 rfl ⟨rfl,b,rfl,g,B,!b,rfl,R,?_⟩)))))
 refine(rX rfl (rA ea c.E dx rfl he C.bM C.e2 rfl ⟨rfl,rX rfl ?_⟩))
 cases hx:B.at (!b)with
 |nil=>
  rw[hx]at q
  refine kC (λ_=>bL q) (λ_=>(rX rfl (rX rfl (bL q))))
 |cons e r=>
  rw[hx]at q
  have ek:=R.en (!b) e (by rw[hx];exact bA)
  obtain⟨de,bp⟩:=ek.en
  obtain⟨md,cR⟩:=ek.od
  refine kC (λhz=>bL ?_) (λhz=>(rX rfl (rX rfl (bF ?_))))
  ·have h0:left=0:=by
    have:=eB hz
    injection this
   have q':eu (e::r) left b ar= .aE:=by simp[eu,h0]
   rw[q']at q
   exact q
  ·have h0:¬left=0:=λz=>hz (by rw[z];exact bO rfl)
   refine(rX rfl (rA e.ea c.E de rfl bp C.bM C.e1 rfl (rA e.oa c.O md rfl cR C.cN C.o3 rfl (rX rfl (rA ea c.E dx rfl he C.bM C.e1 rfl ⟨e.ar,oa,dy,owner,aH b,ar,many,shows,way,num,rfl,ho,rX rfl ?_⟩)))))
   cases mI:cy e.ar (aH b) ar with
   |false=>
    have q':eu (e::r) left b ar= .aE:=by simp[eu,h0,mI]
    rw[q']at q
    exact bL q
   |true=>
    have q':eu (e::r) left b ar= .ref e.ea:=by simp[eu,h0,mI]
    rw[q']at q
    exact bF (rX rfl q)
end
end Fb
variable {d:Fb.Cz}
namespace Fb
open PySem L2
structure Fr(H:Hp)(g:Ga)(B:Bk)(H':Hp)(B':Bk):Prop where
 kp:∀x o,H x=some o->¬bI g B x->H' x=some o
 ft:∀x,bI g B' x->bI g B x\/H x=none
section
variable {bW:ah} {a:c_}
theorem rK(R:Rep c H g B){x:ah}(f:bI g B x):∃o,H x=some o:=by
 rcases f with rfl|rfl|rfl|rfl|rfl| ⟨b,e,he,rfl⟩
 ·exact let⟨_,h⟩:=R.ob;⟨_,h⟩
 ·exact let⟨_,h⟩:=R.nb;⟨_,h⟩
 ·exact⟨_,R.ls true⟩
 ·exact⟨_,R.ls false⟩
 ·exact let⟨_,h,_⟩:=R.de;⟨_,h⟩
 ·exact let⟨_,h⟩:=(R.en b e he).en;⟨_,h⟩
theorem Nu{r x:ah}(f:bI g (B.put e r) x):bI g B x\/x=e.ea:=by
 rcases f with h|h|h|h|h| ⟨b,y,hy,rfl⟩
 ·exact .inl (.inl h)
 ·exact .inl (.inr (.inl h))
 ·exact .inl (.inr (.inr (.inl h)))
 ·exact .inl (.inr (.inr (.inr (.inl h))))
 ·exact .inl (.inr (.inr (.inr (.inr (.inl h)))))
 ·rcases j7 hy with⟨_,z⟩ |z
  ·exact .inr (by rw[z])
  ·exact .inl (.inr (.inr (.inr (.inr (.inr ⟨b,y,z,rfl⟩)))))
inductive af4(bo:Addr)(c:Cs)(vs:List V)(H:Hp)(Q:VK)(E:XK):Prop
 |mk (p dx:Addr) (owner:Int) (side:Str) (ar:Option Int) (many:Int) (shows:Option Int) (way:Str) (_:vs= [.ref p,.int owner,.str side,oV ar,.int many,oV shows,.str way]) (_:H p=some (.ins c.O dx [])) (_:Small side ar many shows way) (_:(dN side ar many shows way=true->∀H',H' p=some (.ins c.O dx (fh owner side ar many shows way .aE))->(∀x,x≠p->H' x=H x)->Q .aE H')) (_:(dN side ar many shows way=false->∀e,E (.ref bo) e H))
theorem abT(T:fP K mg bo nt nn be)(O:jJ K mg bW gw)(C:bR K mg c)(F:da K mg a c):Kp P w K mg base 2 a.rm ["self","owner","side","price","many","shows","way"] (af4 bo c):=
 (abS T O C F).imp λvs H Q E ⟨p,dx,owner,side,ar,many,shows,way,e,hp,sm,h1,h2⟩=>⟨p,dx,owner,side,ar,many,shows,way,e,hp,sm,λg=>h1 g _ aB λx hx=>aw hx,h2⟩
inductive afn(c:Cs)(vs:List V)(H:Hp)(Q:VK)(_:XK):Prop
 |mk (p dx o dy:Addr) (k owner:Int) (side:Str) (ar:Option Int) (many:Int) (shows:Option Int) (way:Str) (num:V) (_:vs= [.ref p,.ref o]) (_:H p=some (.ins c.N dx (mS k))) (_:H o=some (.ins c.O dy (fh owner side ar many shows way num))) (_:∀H',H' p=some (.ins c.N dx (mS (k+1)))->H' o=some (.ins c.O dy (fh owner side ar many shows way (.int k)))->(∀x,x≠p->x≠o->H' x=H x)->Q (.int k) H')
theorem abq(C:bR K mg c)(F:da K mg a c):Kp P w K mg base 1 a.admit ["self","order"] (afn c):=
 Kp.imp (F.admit.kp λfd G=>adw G C) λvs H Q E ⟨p,dx,o,dy,k,owner,side,ar,many,shows,way,num,e,hp,ho,h⟩=>by
  have mR:p≠o:=sk hp ho (BU "came" (by show some (V.int k)≠none;simp))
  exact⟨p,dx,o,dy,k,owner,side,ar,many,shows,way,num,e,hp,ho,h _ aB (by rw[aw mR.symm,aB]) λx h1 h2=>by rw[aw h1,aw h2]⟩
inductive afH(c:Cs)(vs:List V)(H:Hp)(Q:VK)(_:XK):Prop
 |mk (p dx o dy:Addr) (owner:Int) (side:Str) (ar:Option Int) (many:Int) (shows:Option Int) (way:Str) (num:V) (_:vs= [.ref p,.ref o]) (_:H p=some (.ins c.E dx [])) (_:H o=some (.ins c.O dy (fh owner side ar many shows way num))) (_:∀H',H' p=some (.ins c.E dx (cY o many 0 .aE))->(∀x,x≠p->H' x=H x)->Q .aE H')
theorem abE(C:bR K mg c)(F:da K mg a c):Kp P w K mg base 1 a.sV ["self","order"] (afH c):=
 Kp.imp (F.sV.kp λfd G=>adx G C) λvs H Q E ⟨p,dx,o,dy,owner,side,ar,many,shows,way,num,e,hp,ho,h⟩=>⟨p,dx,o,dy,owner,side,ar,many,shows,way,num,e,hp,ho,h _ aB λx h1=>aw h1⟩
theorem zjD{H':Hp}{o dn:ah}{owner:Int}{side:Str}(R:Rep c H g B)(ho:H o=some (.ins c.O dy (fh owner side ar many shows way .aE)))
  (hn:H' g.nb=some (.ins c.N dn (mS (B.aG+1)))) (f:∀x,x≠g.nb->x≠o->H' x=H x):Rep c H' g {B with aG:=B.aG+1}:=by
 obtain⟨⟨d1,h1⟩,⟨d2,h2⟩,h3,h4,h5,h6,⟨kvs,h7,h8⟩,h9⟩:=R
 have k:∀{x:ah} {u:HO} (i:Nat),H x=some u->kd u=i->i≠4->i≠2->H' x=some u:=λ{x u} i hx hk h4 gN=>by
  rw[f x (aN i 4 hx h2 hk rfl h4) (aN i 2 hx ho hk rfl gN)]
  exact hx
 refine⟨⟨d1,k 3 h1 rfl (by decide) (by decide)⟩,⟨dn,hn⟩,k 6 h3 rfl (by decide) (by decide),λb=>k 5 (h4 b) rfl (by decide) (by decide),h5,h6,⟨kvs,k 6 h7 rfl (by decide) (by decide),h8⟩,λb e he=>?_⟩
 obtain⟨⟨dx,en⟩,⟨dz,od⟩,rk⟩:=h9 b e he
 refine⟨⟨dx,k 1 en rfl (by decide) (by decide)⟩,⟨dz,?_⟩,k 7 rk rfl (by decide) (by decide)⟩
 rw[f e.oa (aN 2 4 od h2) (sk od ho (BU "number" (by show some (V.int e.num)≠some V.aE;simp)))]
 exact od
theorem Bk.Ok.admit(ok:B.Ok)(h:B.aG<500):Bk.Ok {B with aG:=B.aG+1}:=by
 obtain⟨h1,h2,h3,h4,h5,h6,h7,h8⟩:=ok
 refine⟨h1,h2,h3,h4,λb e he=>?_,h6,?_,?_⟩
 ·have:=h5 b e he
  show 0<=e.num/\e.num<B.aG+1
  omega
 ·show((B.aU.length+B.aV.length:Nat):Int)<=B.aG+1
  have:((B.aU.length+B.aV.length:Nat):Int)<=B.aG:=h7
  omega
 ·show B.aG+1<=500
  omega
end
end Fb
namespace Sx
open PySem
noncomputable def uV(mask i:Nat):Nat:=(i*5+1) % (mask+1)
noncomputable def kK(mask:Nat):Nat->Nat->Nat
 |0,i=>i
 |n+1,i=>kK mask n (uV mask i)
theorem Bu(mask:Nat):∀a b i,kK mask (a+b) i=kK mask b (kK mask a i)
 |0,b,i=>by rw[Nat.zero_add];rfl
 |a+1,b,i=>by
  rw[show a+1+b=(a+b)+1 by omega]
  show kK mask (a+b) (uV mask i)=kK mask b (kK mask a (uV mask i))
  exact Bu mask a b _
noncomputable def Ax(mask:Nat):Nat->Nat->aa Nat
 |0,_=>[]
 |n+1,i=>i::Ax mask n (uV mask i)
theorem V8(mask:Nat):∀n i j,j∈Ax mask n i->∃b,b<n/\kK mask b i=j
 |0,_,_,h=>absurd h (by simp[Ax])
 |n+1,i,j,h=>by
  rcases hZ.mp h with h|h
  ·exact⟨0,yL _,h.symm⟩
  ·obtain⟨b,hb,e⟩:=V8 mask n _ j h
   exact⟨b+1,Nat.succ_lt_succ hb,e⟩
noncomputable def Mk(mask:Nat):Prop:=mask=7\/mask=15\/mask=31\/mask=63\/mask=127
theorem adE(h:Mk mask):((List.range (mask+1)).all λj=>(Ax mask (mask+1) 0).contains j)=true:=by
 rcases h with rfl|rfl|rfl|rfl|rfl<;>decide+kernel
theorem adF(h:Mk mask):kK mask (mask+1) 0=0:=by
 rcases h with rfl|rfl|rfl|rfl|rfl<;>decide+kernel
theorem SY(h:Mk mask)(hj:j<=mask):∃b,b<=mask/\kK mask b 0=j:=by
 have h1:=List.all_eq_true.mp (adE h) j (List.mem_range.mpr (by omega))
 obtain⟨b,hb,e⟩:=V8 mask _ _ j (by simpa using h1)
 exact⟨b,by omega,e⟩
theorem reach(h:Mk mask)(hi:i<=mask)(hj:j<=mask):∃t,t<=mask+1/\kK mask t i=j:=by
 obtain⟨a,ha,ea⟩:=SY h hi
 obtain⟨b,hb,eb⟩:=SY h hj
 by_cases iI:a<=b
 ·refine⟨b-a,by omega,?_⟩
  rw[<-ea,<-Bu,show a+(b-a)=b by omega]
  exact eb
 ·refine⟨b+(mask+1) -a,by omega,?_⟩
  rw[<-ea,<-Bu,show a+(b+(mask+1) -a)=(mask+1)+b by omega,Bu,adF h]
  exact eb
noncomputable def lk(mask:Nat):Nat->Nat×Nat->Nat×Nat
 |0,p=>p
 |n+1,p=>lk mask n (SetTable.leap mask p.1 p.2)
theorem Sa(mask:Nat):∀a b p,lk mask (a+b) p=lk mask b (lk mask a p)
 |0,b,p=>by rw[Nat.zero_add];rfl
 |a+1,b,p=>by
  rw[show a+1+b=(a+b)+1 by omega]
  exact Sa mask a b _
theorem WG(mask:Nat):∀n i,lk mask n (i,0)=(kK mask n i,0)
 |0,_=>rfl
 |n+1,i=>by
  show lk mask n (SetTable.leap mask i 0)=_
  have:SetTable.leap mask i 0=(uV mask i,0):=by simp[SetTable.leap,uV]
  rw[this]
  exact WG mask n _
theorem Sb(mask:Nat):∀n p,(lk mask n p).2=p.2 / 32^n
 |0,p=>by simp[lk]
 |n+1,p=>by
  show(lk mask n (SetTable.leap mask p.1 p.2)).2=_
  rw[Sb mask n]
  show p.2 / 32 / 32^n=_
  rw[Nat.div_div_eq_div_mul,Nat.pow_succ,Nat.mul_comm]
theorem OI(mask:Nat):∀n p,0<n->(lk mask n p).1<=mask
 |0,_,h=>absurd h (kN _)
 |n+1,p,_=>by
  by_cases hn:0<n
  ·exact OI mask n _ hn
  ·have:n=0:=by omega
   subst this
   show(p.1*5+1+p.2 / 32) % (mask+1)<=mask
   have:=Nat.mod_lt (p.1*5+1+p.2 / 32) (show 0<mask+1 by omega)
   omega
theorem Te(h:Mk mask){p:Nat}(hp:p<2^64)(hj:j<=mask):∃t,t<=mask+14/\(lk mask t (i,p)).1=j:=by
 have e2:(lk mask 13 (i,p)).2=0:=by
  rw[Sb]
  show p / 32^13=0
  refine Nat.div_eq_of_lt (sE hp (by decide))
 have e1:=OI mask 13 (i,p) (by decide)
 obtain⟨t,ht,et⟩:=reach h e1 hj
 refine⟨13+t,by omega,?_⟩
 rw[Sa]
 have:lk mask 13 (i,p)=((lk mask 13 (i,p)).1,0):=by rw[<-e2]
 rw[this,WG]
 exact et
theorem Vb(mask:Nat)(owner:Array (ae Nat)):∀fuel i p,(∃t,t<fuel/\owner.getD (lk mask t (i,p)).1 (some 0)=none)->∃j,SetTable.layClean.free mask owner fuel i p=some j/\owner.getD j (some 0)=none
 |0,_,_,⟨_,h,_⟩=>absurd h (B_ _)
 |fuel+1,i,p,⟨t,ht,hf⟩=>by
  unfold SetTable.layClean.free
  cases Qz:(List.range (SetTable.runEnd mask i+1-i)).find? λk=>(owner.getD (i+k) (some 0)).isNone with
  |some k=>
   refine⟨i+k,rfl,?_⟩
   have:=List.find?_some Qz
   simpa using this
  |none=>
   dsimp only
   have dh:=List.find?_eq_none.mp Qz 0 (List.mem_range.mpr (by unfold SetTable.runEnd;split<;>omega))
   cases t with
   |zero=>
    exfalso
    apply dh
    have D8:owner.getD i (some 0)=none:=hf
    rw[Nat.add_zero,D8]
    rfl
   |succ t=>exact Vb mask owner fuel _ _ ⟨t,by omega,hf⟩
theorem PM(k:Nat):∀(l:aa (ae Nat)) (j:Nat),l[j]?=some none->((l.set j (some k)).filterMap id).Perm (k::l.filterMap id)
 | [],j,h=>by simp at h
 |x::r,0,h=>by
  have:x=none:=by simpa using h
  subst this
  simp
 |x::r,j+1,h=>by
  have ih:=PM k r j (by simpa using h)
  rw[List.set_cons_succ]
  cases x with
  |none=>simpa using ih
  |some y=>
   have h1:(some y::r.set j (some k)).filterMap id=y::(r.set j (some k)).filterMap id:=by simp
   have h2:(some y::r).filterMap id=y::r.filterMap id:=by simp
   rw[h1,h2]
   exact(List.Perm.cons y ih).trans (List.Perm.swap k y _)
theorem US:∀(l:aa (ae Nat)),(l.filterMap id).length<l.length->∃j:Nat,l[j]?=some none
 | [],h=>absurd h (by simp)
 |none::r,_=>⟨0,rfl⟩
 |some y::r,h=>by
  obtain⟨j,hj⟩:=US r (by simpa using h)
  exact⟨j+1,by simpa using hj⟩
theorem Wo(h:Int):SetTable.bits h<2^64:=by
 unfold SetTable.bits
 omega
noncomputable def BF(mask:Nat)(acc:ae (Array (ae Nat)×Nat))(h:Int):ae (Array (ae Nat)×Nat):=do
 let(owner,k) <-acc
 let j <-SetTable.layClean.free mask owner (SetTable.turns mask) (SetTable.bits h % (mask+1)) (SetTable.bits h)
 pure (owner.setIfInBounds j (some k),k+1)
theorem VX(hm:Mk mask):∀(l:aa Int) (owner:Array (ae Nat)) (k:Nat),owner.size=mask+1->(owner.toList.filterMap id).Perm (List.range k)->k+l.length<=mask->
  ∃xy,l.foldl (BF mask) (some (owner,k))=some (xy,k+l.length)/\xy.size=mask+1/\(xy.toList.filterMap id).Perm (List.range (k+l.length))
 | [],owner,k,h1,h2,_=>⟨owner,rfl,h1,h2⟩
 |h::l,owner,k,h1,h2,h3=>by
  rw[d5]at h3
  have hlen:(owner.toList.filterMap id).length=k:=by rw[h2.length_eq,yI]
  obtain⟨j0,Eh⟩:=US owner.toList (by rw[hlen,gT,h1];omega)
  have aj5:j0<owner.size:=by
   have:=(List.getElem?_eq_some_iff.mp Eh).1
   simpa using this
  have Zj:owner.getD j0 (some 0)=none:=by
   rw[sq]at Eh
   rw[fk,Eh]
   rfl
  obtain⟨t,ht,et⟩:=Te hm (i:=SetTable.bits h % (mask+1)) (Wo h) (show j0<=mask by omega)
  obtain⟨j,hj,zC⟩:=Vb mask owner (SetTable.turns mask) (SetTable.bits h % (mask+1)) (SetTable.bits h) ⟨t,by unfold SetTable.turns;omega,by rw[et];exact Zj⟩
  have qB:j<owner.size:=by
   refine yA λhn=>?_
   rw[fk,ON (by omega)]at zC
   cases zC
  have Ei:owner.toList[j]?=some none:=by
   rw[sq,fX qB]
   rw[fk,fX qB]at zC
   exact dA some zC
  have aaE:BF mask (some (owner,k)) h=some (owner.setIfInBounds j (some k),k+1):=by
   unfold BF
   show(SetTable.layClean.free mask owner (SetTable.turns mask) (SetTable.bits h % (mask+1)) (SetTable.bits h)).bind _=_
   rw[hj]
   rfl
  have gN:((owner.setIfInBounds j (some k)).toList.filterMap id).Perm (List.range (k+1)):=by
   rw[Array.toList_setIfInBounds]
   refine(PM k _ j Ei).trans ?_
   rw[List.range_succ]
   exact(List.Perm.cons k h2).trans (List.perm_append_singleton k _).symm
  obtain⟨xy,e,s1,s2⟩:=VX hm l (owner.setIfInBounds j (some k)) (k+1) (by rw[Array.size_setIfInBounds];exact h1) gN (by omega)
  refine⟨xy,?_,s1,?_⟩
  ·rw[List.foldl_cons,aaE,e,d5,show k+1+l.length=k+(l.length+1) by omega]
  ·rw[d5,show k+(l.length+1)=k+1+l.length by omega]
   exact s2
theorem zhB(hm:Mk mask)(hashes:Array Int)(hn:hashes.size<=mask):∃owner,SetTable.layClean mask hashes=some owner/\owner.size=mask+1/\(owner.toList.filterMap id).Perm (List.range hashes.size):=by
 obtain⟨owner,e,s1,s2⟩:=VX hm hashes.toList (Array.replicate (mask+1) none) 0 (by simp) (by simp[Array.toList_replicate]) (by simpa using hn)
 refine⟨owner,?_,s1,by simpa using s2⟩
 unfold SetTable.layClean
 rw[<-Array.foldl_toList]
 have:hashes.toList.foldl (BF mask) (some (Array.replicate (mask+1) none,0))=some (owner,0+hashes.toList.length):=e
 exact dA (Option.map (·.1)) this
open PySem
noncomputable def jm(xs:Array Nat):Prop:=xs.toList.Pairwise (·< ·)
theorem BH{xs:Array Nat}(h:jm xs){k:Nat}(Ee:i<k)(hk:k<xs.size):xs.getD i 0<xs.getD k 0:=by
 have:=List.pairwise_iff_getElem.mp h i k (by simpa using sE Ee hk) (by simpa using hk) Ee
 rw[fk,fk,fX (sE Ee hk),fX hk]
 simpa using this
theorem getD_in{xs:Array Nat}(h:i<xs.size)(a b:Nat):xs.getD i a=xs.getD i b:=by
 rw[fk,fk,fX h]
 rfl
theorem Nc{xs:Array Nat}(h:jm xs)(j:Nat):∀fuel lo hi,hi-lo<=fuel->lo<=hi->hi<=xs.size->(∀i,i<lo->xs.getD i 0<j)->(∀i,hi<=i->i<xs.size->¬xs.getD i 0<j)->
  SetTable.below.go xs j fuel lo hi<=xs.size/\(∀i,i<SetTable.below.go xs j fuel lo hi->xs.getD i 0<j)/\∀i,SetTable.below.go xs j fuel lo hi<=i->i<xs.size->¬xs.getD i 0<j
 |0,lo,hi,hf,h1,h2,h3,h4=>by
  have e:lo=hi:=by omega
  subst e
  exact⟨h2,h3,h4⟩
 |fuel+1,lo,hi,hf,h1,h2,h3,h4=>by
  unfold SetTable.below.go
  by_cases bq:lo<hi
  ·rw[aA bq]
   dsimp only
   have hm:(lo+hi) / 2<xs.size:=by omega
   rw[getD_in hm j 0]
   by_cases hv:xs.getD ((lo+hi) / 2) 0<j
   ·rw[aA hv]
    refine Nc h j fuel _ _ (by omega) (by omega) h2 (λi k_=>?_) h4
    by_cases e:i=(lo+hi) / 2
    ·rw[e]
     exact hv
    ·have:=BH h (show i< (lo+hi) / 2 by omega) hm
     omega
   ·rw[ax hv]
    refine Nc h j fuel _ _ (by omega) (by omega) (by omega) h3 (λi k_ hs=>?_)
    by_cases e:i=(lo+hi) / 2
    ·rw[e]
     exact hv
    ·have:=BH h (show(lo+hi) / 2<i by omega) hs
     omega
  ·rw[ax bq]
   have e:lo=hi:=by omega
   subst e
   exact⟨h2,h3,h4⟩
theorem Nb{xs:Array Nat}(h:jm xs)(j:Nat):SetTable.below xs j<=xs.size/\(∀i,i<SetTable.below xs j->xs.getD i 0<j)/\∀i,SetTable.below xs j<=i->i<xs.size->¬xs.getD i 0<j:=
 Nc h j xs.size 0 xs.size (bu _) (dD _) (bu _) (λi hi=>absurd hi (B_ _)) λi h1 h2=>absurd h2 (Nat.not_lt.mpr h1)
theorem Xr{xs:Array Nat}(h:jm xs)(hj:j∈xs.toList):xs[SetTable.below xs j]?=some j:=by
 obtain⟨h1,h2,h3⟩:=Nb h j
 obtain⟨k,hk,e⟩:=List.getElem_of_mem hj
 have Ej:k<xs.size:=by simpa using hk
 have ek:xs.getD k 0=j:=by
  rw[fk,fX Ej]
  simpa using e
 have:SetTable.below xs j=k:=by
  by_cases c:SetTable.below xs j<k
  ·have g:=BH h c Ej
   have g2:=h3 (SetTable.below xs j) (bu _) (by omega)
   omega
  ·by_cases c2:k<SetTable.below xs j
   ·have:=h2 k c2
    omega
   ·omega
 rw[this,fX Ej]
 exact dA some (by simpa using e)
theorem Wk{t:SetTable}(hd:t.dummies= #[])(j:Nat)(hj:j∉t.place.toList):t.slot j= .empty:=by
 unfold SetTable.slot
 dsimp only
 have h1:¬(t.place[SetTable.below t.place j]?==some j)=true:=λz=>by
  have z:t.place[SetTable.below t.place j]?=some j:=by simpa using z
  exact hj (by rw[<-sq]at z;exact d6 z)
 rw[ax h1,hd]
 rfl
theorem zjr{t:SetTable}(h:jm t.place)(hj:j∈t.place.toList):t.slot j= .live (SetTable.below t.place j):=by
 unfold SetTable.slot
 dsimp only
 rw[Xr h hj]
 simp
noncomputable def Pc(t:SetTable)(i p:Nat):SetTable.Probe:={j:=i,more:=SetTable.runEnd t.mask i-i,i:=i,perturb:=p,dummy:=none}
theorem zjC(h:i<=mask):i<=SetTable.runEnd mask i/\SetTable.runEnd mask i<=mask/\SetTable.runEnd mask i-i<=9:=by
 unfold SetTable.runEnd
 split<;>omega
noncomputable def Cn(t:SetTable)(r:ae SetTable.Met):Prop:=∃j,r=some (.empty j none)/\j∉t.place.toList/\j<=t.mask
theorem Qg{t:SetTable}(hr:jm t.place)(hd:t.dummies= #[])(h:Int)(i p:Nat):∀m j fuel,j+m<=t.mask->
  Cn t (SetTable.probe.go t (λ_=>h+1) h (fuel+(m+1)) ⟨j,m,i,p,none⟩)\/SetTable.probe.go t (λ_=>h+1) h (fuel+(m+1)) ⟨j,m,i,p,none⟩=SetTable.probe.go t (λ_=>h+1) h fuel (Pc t (SetTable.leap t.mask i p).1 (SetTable.leap t.mask i p).2)
 |m,j,fuel,hm=>by
  have step:SetTable.probe.go t (λ_=>h+1) h (fuel+m+1) ⟨j,m,i,p,none⟩=match t.slot j with
   | .empty=>some (.empty j none)
   | .dummy=>SetTable.probe.go t (λ_=>h+1) h (fuel+m) (t.advance ⟨j,m,i,p,some j⟩)
   | .live k=>if(h+1==h)=true then some (.candidate j k (t.advance ⟨j,m,i,p,none⟩))else SetTable.probe.go t (λ_=>h+1) h (fuel+m) (t.advance ⟨j,m,i,p,none⟩):=rfl
  rw[show fuel+(m+1)=fuel+m+1 by omega,step]
  by_cases hj:j∈t.place.toList
  ·rw[zjr hr hj]
   have dc:¬(h+1==h)=true:=by
    intro z
    have z:h+1=h:=by simpa using z
    omega
   dsimp only
   rw[ax dc]
   cases m with
   |zero=>
    refine .inr ?_
    rfl
   |succ m=>
    have:t.advance ⟨j,m+1,i,p,none⟩=⟨j+1,m,i,p,none⟩:=by
     unfold SetTable.advance
     rw[aA (yL m)]
     rfl
    rw[this]
    exact Qg hr hd h i p m (j+1) fuel (by omega)
  ·rw[Wk hd j hj]
   exact .inl ⟨j,rfl,hj,by omega⟩
theorem Wr{t:SetTable}(hr:jm t.place)(hd:t.dummies= #[])(h:Int):∀n i p fuel,i<=t.mask->(∃k,k<=n/\(lk t.mask k (i,p)).1∉t.place.toList)->10*n<fuel->Cn t (SetTable.probe.go t (λ_=>h+1) h fuel (Pc t i p))
 |n,i,p,fuel,hi,⟨k,hk,hf⟩,hfu=>by
  obtain⟨r1,r2,r3⟩:=zjC hi
  by_cases Eg:i∈t.place.toList
  ·cases k with
   |zero=>exact absurd Eg hf
   |succ k=>
    cases n with
    |zero=>omega
    |succ n=>
     obtain⟨f',rfl⟩:∃f',fuel=f'+(SetTable.runEnd t.mask i-i+1):=⟨fuel- (SetTable.runEnd t.mask i-i+1),by omega⟩
     rcases Qg hr hd h i p (SetTable.runEnd t.mask i-i) i f' (by omega)with z|z
     ·exact z
     ·show Cn t (SetTable.probe.go t (λ_=>h+1) h (f'+(SetTable.runEnd t.mask i-i+1)) ⟨i,SetTable.runEnd t.mask i-i,i,p,none⟩)
      rw[z]
      refine Wr hr hd h n _ _ f' ?_ ⟨k,by omega,hf⟩ (by omega)
      have:=OI t.mask 1 (i,p) (by decide)
      exact this
  ·obtain⟨f',rfl⟩:∃f',fuel=f'+1:=⟨fuel-1,by omega⟩
   refine⟨i,?_,Eg,hi⟩
   show SetTable.probe.go t (λ_=>h+1) h (f'+1) ⟨i,SetTable.runEnd t.mask i-i,i,p,none⟩=_
   unfold SetTable.probe.go
   rw[show(⟨i,SetTable.runEnd t.mask i-i,i,p,none⟩:SetTable.Probe).j=i from rfl,Wk hd i Eg]
theorem S7:∀(n:Nat) (l:aa Nat),(∀j,j<n->j∈l)->n<=l.length
 |0,_,_=>dD _
 |n+1,l,h=>by
  have hm:=h n (oS n)
  have h1:=S7 n (l.erase n) λj hj=>(List.mem_erase_of_ne (cU hj)).mpr (h j (yK hj))
  have h2:=List.length_erase_of_mem hm
  have h3:=List.length_pos_of_mem hm
  omega
theorem zjp{t:SetTable}(hr:jm t.place)(hs:t.place.size<=t.mask):∃j,j<=t.mask/\j∉t.place.toList:=by
 refine yA λhn=>?_
 have vZ:∀j,j<=t.mask->j∈t.place.toList:=λj hj=>yA λz=>hn ⟨j,hj,z⟩
 have:=S7 (t.mask+1) t.place.toList λj hj=>vZ j (by omega)
 rw[gT]at this
 omega
theorem zhG{t:SetTable}(hm:Mk t.mask)(hr:jm t.place)(hd:t.dummies= #[])(hs:t.place.size<=t.mask)(h:Int):∃j,t.freeSlot h=some (j,false)/\j∉t.place.toList/\j<=t.mask:=by
 obtain⟨j0,h0,n0⟩:=zjp hr hs
 obtain⟨k,hk,ek⟩:=Te hm (i:=SetTable.bits h % (t.mask+1)) (Wo h) h0
 have hi:SetTable.bits h % (t.mask+1)<=t.mask:=by
  have:=Nat.mod_lt (SetTable.bits h) (show 0<t.mask+1 by omega)
  omega
 obtain⟨j,e,h1,h2⟩:=Wr hr hd h (t.mask+14) (SetTable.bits h % (t.mask+1)) (SetTable.bits h) (10*SetTable.turns t.mask) hi ⟨k,hk,by rw[ek];exact n0⟩ (by unfold SetTable.turns;omega)
 refine⟨j,?_,h1,h2⟩
 unfold SetTable.freeSlot SetTable.probe
 have e':SetTable.probe.go t (λ_=>h+1) h (10*SetTable.turns t.mask) (t.probeStart h)=some (.empty j none):=e
 rw[e']
 rfl
theorem ziL{xs:Array Nat}(h:jm xs)(hj:j∉xs.toList):jm (SetTable.insertAt xs (SetTable.below xs j) j):=by
 obtain⟨h1,h2,h3⟩:=Nb h j
 unfold jm
 rw[SetTable.toList_insertAt]
 have hp:xs.toList.Pairwise (·< ·):=h
 have tk:∀x∈xs.toList.take (SetTable.below xs j),x<j:=λx hx=>by
  obtain⟨k,hk,e⟩:=List.getElem_of_mem hx
  rw[List.getElem_take]at e
  rw[iT]at hk
  have ZL:k<SetTable.below xs j:=by omega
  have tI:k<xs.size:=by omega
  have:=h2 k ZL
  rw[fk,fX tI]at this
  have this:xs[k]<j:=this
  rw[<-e]
  simpa using this
 have dr:∀x∈xs.toList.drop (SetTable.below xs j),j<x:=λx hx=>by
  obtain⟨k,hk,e⟩:=List.getElem_of_mem hx
  rw[List.getElem_drop]at e
  rw[B8]at hk
  have tI:SetTable.below xs j+k<xs.size:=by simp at hk;omega
  have:=h3 (SetTable.below xs j+k) (by omega) tI
  rw[fk,fX tI]at this
  have this:¬xs[SetTable.below xs j+k]<j:=this
  have ex:xs[SetTable.below xs j+k]=x:=by simpa using e
  have dc:x≠j:=λz=>hj (by rw[<-z];exact List.drop_subset _ _ hx)
  rw[ex]at this
  omega
 refine List.pairwise_append.mpr ⟨hp.sublist (List.take_sublist _ _),List.pairwise_cons.mpr ⟨dr,hp.sublist (List.drop_sublist _ _)⟩,λa ha b hb=>?_⟩
 rcases hZ.mp hb with rfl|hb
 ·exact tk a ha
 ·exact sE (tk a ha) (dr b hb)
open PySem
structure Good(t:SetTable)(n:Nat):Prop where
 mm:Mk t.mask
 AE:jm t.place
 sz:t.place.size=n
 le:∀j∈t.place.toList,j<=t.mask
 dm:t.dummies= #[]
 pl:t.plain=true
 lt:n<=t.mask
theorem Good.fits{t:SetTable}(g:Good t n):t.fits n=true:=by
 unfold SetTable.fits SetTable.fill
 rw[g.dm,g.sz]
 have:=g.lt
 simp
 omega
theorem Good.fill{t:SetTable}(g:Good t n):t.fill=n:=by
 unfold SetTable.fill
 rw[g.dm,g.sz]
 rfl
theorem ziZ(led:ai):Good (.fresh 0 0 led) 0:=⟨.inl rfl,List.Pairwise.nil,rfl,λ_ h=>absurd h (by simp[SetTable.fresh]),rfl,rfl,dD _⟩
theorem zhA{t:SetTable}{es:Array (Int×af)}(g:Good t es.size)(hs:es.size+1<=t.mask)(h:Int)(x:af):
  ∃dR t',layNew t es h x=(dR,t',false,false)/\Good t' dR.size/\dR.size=es.size+1/\t'.mask=t.mask/\t'.led=t.led/\dR.toList.Perm (es.toList++ [(h,x)]):=by
 obtain⟨j,e,h1,h2⟩:=zhG g.mm g.AE g.dm (by rw[g.sz];exact g.lt) h
 have ER:t.put j=({t with place:=SetTable.insertAt t.place (SetTable.below t.place j) j},SetTable.below t.place j):=by
  unfold SetTable.put
  have:SetTable.has t.dummies j=false:=by rw[g.dm];rfl
  rw[this]
  simp
 have hsz:∀{α:Type} (xs:Array α) (p:Nat) (y:α),(SetTable.insertAt xs p y).size=xs.size+1:=λxs p y=>by
  have:=(OT xs p y).length_eq
  simpa using this
 have jq:(SetTable.insertAt es (SetTable.below t.place j) (h,x)).size=es.size+1:=hsz _ _ _
 have g':Good {t with place:=SetTable.insertAt t.place (SetTable.below t.place j) j} (SetTable.insertAt es (SetTable.below t.place j) (h,x)).size:=by
  refine⟨g.mm,ziL g.AE h1,by rw[jq];show(SetTable.insertAt t.place _ j).size=_;rw[hsz,g.sz],λk hk=>?_,g.dm,g.pl,by rw[jq];exact hs⟩
  have hk:k∈(SetTable.insertAt t.place (SetTable.below t.place j) j).toList:=hk
  have:=(OT t.place (SetTable.below t.place j) j).mem_iff.mp hk
  rw[Array.toList_push]at this
  rcases List.mem_append.mp this with z|z
  ·exact g.le k z
  ·rw[List.mem_singleton.mp z]
   exact h2
 refine⟨_,_,?_,g',jq,rfl,rfl,?_⟩
 ·unfold layNew
  rw[e]
  dsimp only
  rw[ER]
  dsimp only
  unfold SetTable.orStandIn
  rw[g'.fits]
  rfl
 ·have:=OT es (SetTable.below t.place j) (h,x)
  rwa [Array.toList_push]at this
theorem U8(hm:Mk mask)(finger moves:Nat)(led:ai)(hashes:Array Int)(hn:hashes.size<=mask):
  ∃t order,SetTable.laid mask finger moves led true hashes=some (t,order)/\Good t hashes.size/\t.mask=mask/\t.led=led/\order.toList.Perm (List.range hashes.size):=by
 obtain⟨owner,e,s1,s2⟩:=zhB hm hashes hn
 let live:=(List.range (mask+1)).filterMap λj=>(owner.getD j none).map (j,·)
 have hl:SetTable.laid mask finger moves led true hashes=some ({mask:=mask,place:=(live.map (·.1)).toArray,dummies:=#[],finger:=finger,led:=led,moves:=moves,plain:=true},(live.map (·.2)).toArray):=by
  unfold SetTable.laid
  rw[e]
  rfl
 have h2:live.map (·.2)=owner.toList.filterMap id:=by
  have e1:(List.range (mask+1)).map (λj=>owner.getD j none)=owner.toList:=by
   refine List.ext_getElem (by simp[s1]) λi a b=>?_
   have hi:i<owner.size:=by simpa [s1]using a
   rw[List.getElem_map,List.getElem_range,fk,fX hi]
   simp
  rw[<-e1,List.filterMap_map]
  show((List.range (mask+1)).filterMap λj=>(owner.getD j none).map (j,·)).map (·.2)=_
  rw[List.map_filterMap]
  refine dA (λf=>List.filterMap f (List.range (mask+1))) (funext λj=>?_)
  show Option.map (·.2) ((owner.getD j none).map (j,·))=id (owner.getD j none)
  cases owner.getD j none<;>rfl
 have hlen:live.length=hashes.size:=by
  have:=dA List.length h2
  rw[bH,s2.length_eq,yI]at this
  exact this
 have acL:∀j∈live.map (·.1),j<=mask:=λj hj=>by
  obtain⟨p,hp,ep⟩:=u4.mp hj
  obtain⟨k,hk,ek⟩:=List.mem_filterMap.mp hp
  have:=List.mem_range.mp hk
  cases q:owner.getD k none with
  |none=>
   rw[q]at ek
   cases ek
  |some z=>
   rw[q]at ek
   have:p=(k,z):=(cq ek).symm
   rw[<-ep,this]
   show k<=mask
   omega
 refine⟨_,_,hl,⟨hm,?_,?_,?_,rfl,rfl,hn⟩,rfl,rfl,?_⟩
 ·show(live.map (·.1)).toArray.toList.Pairwise (·< ·)
  rw[show(live.map (·.1)).toArray.toList=live.map (·.1)from rfl]
  show(((List.range (mask+1)).filterMap λj=>(owner.getD j none).map (j,·)).map (·.1)).Pairwise (·< ·)
  rw[List.map_filterMap]
  have hp:(List.range (mask+1)).Pairwise (·< ·):=List.pairwise_lt_range
  refine List.Pairwise.filterMap _ (λa a' h b hb b' cZ=>?_) hp
  cases q:owner.getD a none with
  |none=>
   rw[q]at hb
   cases hb
  |some z=>
   rw[q]at hb
   cases q':owner.getD a' none with
   |none=>
    rw[q']at cZ
    cases cZ
   |some z'=>
    rw[q']at cZ
    have e1:a=b:=cq hb
    have e2:a'=b':=cq cZ
    omega
 ·show(live.map (·.1)).toArray.size=_
  simpa using hlen
 ·intro j hj
  exact acL j (by simpa using hj)
 ·rw[show((live.map (·.2)).toArray).toList=live.map (·.2)from rfl,h2]
  exact s2
theorem Ba{es:Array (Int×af)}{order:Array Nat}(h:order.toList.Perm (List.range es.size)):(order.filterMap (es[·]?)).toList.Perm es.toList:=by
 rw[Array.toList_filterMap,<-filterMap_getElem?_range es]
 exact h.filterMap _
theorem afg:(List.range 128).all (λn=>([7,15,31,63,127]:aa Nat).contains (SetTable.sizeAbove n-1)&&decide (n<=SetTable.sizeAbove n-1))=true:=by decide+kernel
theorem yb(h:n<128):Mk (SetTable.sizeAbove n-1)/\n<=SetTable.sizeAbove n-1:=by
 have:=List.all_eq_true.mp afg n (List.mem_range.mpr h)
 rw[BZ]at this
 refine⟨?_,eB this.2⟩
 have h1:=List.contains_iff_mem.mp this.1
 unfold Mk
 simpa using h1
theorem My{t:SetTable}(g:Good t n)(hashes:Array Int)(hh:hashes.size=n)(hw:wanted<128)(hn:n<=wanted):
  ∃t' order,t.relaid hashes wanted=some (t',order)/\Good t' n/\t'.led=t.led/\t'.mask=SetTable.sizeAbove wanted-1/\order.toList.Perm (List.range n):=by
 obtain⟨h1,h2⟩:=yb hw
 obtain⟨t',order,e,g',m',l',p'⟩:=U8 h1 t.finger (t.movedTo (SetTable.sizeAbove wanted-1)) t.led hashes (by omega)
 refine⟨t',order,?_,by rw[<-hh];exact g',l',m',by rw[<-hh];exact p'⟩
 unfold SetTable.relaid
 rw[g.pl]
 exact e
theorem zfy{t:SetTable}{es:Array (Int×af)}(g:Good t es.size)(hw:wanted<128)(hn:es.size<=wanted):
  ∃dR t',relayAll t es wanted=(dR,t',false)/\Good t' dR.size/\dR.size=es.size/\t'.led=t.led/\t'.mask=SetTable.sizeAbove wanted-1/\dR.toList.Perm es.toList:=by
 obtain⟨t',order,e,g',l',m',p'⟩:=My g (es.map (·.1)) (by simp) hw hn
 have hp:=Ba p'
 have hs:(order.filterMap (es[·]?)).size=es.size:=by
  have:=hp.length_eq
  rw[gT,gT]at this
  exact this
 refine⟨_,t',?_,by rw[hs];exact g',hs,l',m',hp⟩
 unfold relayAll
 rw[e]
 dsimp only
 have hc:coversAll order es.size=true:=by
  unfold coversAll
  exact List.isPerm_iff.mpr p'
 rw[hc,hs,g'.fits]
 rfl
open PySem
noncomputable def gf(w:World):ai:=w.params.followText "set-order"
noncomputable def eY(e:Int×af):Int:=match e.2 with
 | .int k _=>k
 |_=>0
noncomputable def GS(w:World)(h:aj)(a:ah)(ks:aa Int):Prop:=∃o es ep t,h.get? a=some o/\o.ExactSet/\o.data= .set es ep t/\Good t es.size/\es.size*5<t.mask*3/\t.led= !gf w/\
 (∀e∈es.toList,∃k tk,e=(hashInt k,.int k tk))/\(es.toList.map eY).Perm ks/\ks.Nodup
section
theorem Yh{es:aa (Int×af)}(h:∀e∈es,∃k tk,e=(hashInt k,Value.int k tk)):ElemsOf (intKind prog w) es:=λe he=>by
 obtain⟨k,tk,rfl⟩:=h e he
 exact⟨⟨k,intKind_is prog w k tk,rfl⟩,rfl⟩
theorem RN{e:Int×af}{k:Int}(h:∃k tk,e=(hashInt k,Value.int k tk)):(intKind prog w).is k e.2=true↔eY e=k:=by
 obtain⟨k',tk,rfl⟩:=h
 show Value.isInt k (.int k' tk)=true↔k'=k
 simp[Value.isInt]
theorem Yw{es:aa (Int×af)}(h:∀e∈es,∃k tk,e=(hashInt k,Value.int k tk))(hp:(es.map eY).Perm ks)(k:Int):(es.findIdx? λe=>(intKind prog w).is k e.2).isSome=decide (k∈ks):=by
 rw[List.findIdx?_isSome,uX,List.any_eq_true,yP,<-hp.mem_iff,u4]
 constructor
 ·rintro⟨e,he,hi⟩
  exact⟨e,he,(RN (h e he)).mp hi⟩
 ·rintro⟨e,he,hi⟩
  exact⟨e,he,(RN (h e he)).mpr hi⟩
theorem Bg{t:SetTable}(h:Mk t.mask):7<=t.mask/\t.mask<=127:=by
 unfold Mk at h
 omega
theorem BO{es es2:Array (Int×af)}{t t2:SetTable}(ho:h.get? a=some o)(hd:o.data= .set es ep t):(h.update a (Obj.putSet es2 t2)).get? a=some {o with data:=.set es2 (ep+1) t2}:=by
 have e:=putSet_of es2 t2 hd
 have q:(h.update a (Obj.putSet es2 t2)).get? a=some (Obj.putSet es2 t2 o):=OS _ ho (by rw[e];rfl)
 rwa [e]at q
theorem GS.store{es:Array (Int×af)}{t:SetTable}(ho:h.get? a=some o)(hx:o.ExactSet)(hd:o.data= .set es ep t){dR:Array (Int×af)}{t':SetTable}{ks:aa Int}
  (g:Good t' dR.size) (hq:dR.size*5<t'.mask*3) (hl:t'.led= !gf w) (he:∀e∈dR.toList,∃k tk,e=(hashInt k,Value.int k tk)) (hp:(dR.toList.map eY).Perm ks) (hn:ks.Nodup):
  (h.update a (Obj.putSet dR t')).get? a=some {o with data:=.set dR (ep+1) t'}/\GS w (h.update a (Obj.putSet dR t')) a ks:=by
 exact⟨BO ho hd,_,dR,ep+1,t',BO ho hd,hx,rfl,g,hq,hl,he,hp,hn⟩
theorem GS.len{h:aj}{a:ah}{es:Array (Int×af)}(hp:(es.toList.map eY).Perm ks):es.size=ks.length:=by
 have:=hp.length_eq
 rw[bH,gT]at this
 exact this
theorem Uk{k:Int}{tk:Tok}{Q:ai->ag->Prop}(hG:GS w s.heap a ks)(hl:ks.length<=30)
  (h:∀h',Heap.SameBut a s.heap h'->GS w h' a (if k∈ks then ks else ks++ [k])->Q (!decide (k∈ks)) {s with heap:=h'}):
  wpAny (model prog w) A (setAddHashed a (.int k tk) (hashInt k)) Q E s:=by
 obtain⟨o,es,ep,t,ho,hx,hd,g,hq,gZ,fu,hp,hn⟩:=id hG
 have hsz:=GS.len (h:=s.heap) (a:=a) hp
 have tF:ElemsOf (intKind prog w) es.toList:=Yh fu
 have hb:es.size<scanBound:=by unfold scanBound;omega
 obtain⟨m1,m2⟩:=Bg g.mm
 unfold setAddHashed setAddHashedIn
 refine oU (aC (kg ho hd g.fits ?_))
 dsimp only
 rw[byScan_of rfl hb tF]
 simp only[↓reduceIte]
 unfold setAddByScan
 refine aC ?_
 refine aC (wpAny_rule ?_)
 refine aC (wpAny_setScan_of (knd:=intKind prog w) (intKind_is prog w k tk) ho hd g.fits tF ?_)
 have zr:=Yw (prog:=prog) (w:=w) fu hp k
 cases hr:List.findIdx? (λe=>(intKind prog w).is k e.2) es.toList with
 |some j=>
  dsimp only
  rw[hr]at zr
  have hk:k∈ks:=eB zr.symm
  refine aR (aR ?_)
  have e:s={s with heap:=s.heap}:=by cases s;rfl
  have:=h s.heap (yM a s.heap) (by rw[aA hk];exact hG)
  rw[bO hk]at this
  rw[e]
  exact this
 |none=>
  dsimp only
  rw[hr]at zr
  have hk:k∉ks:=yQ zr.symm
  obtain⟨jq,t1,hL,g1,zW,pz,jt,g0⟩:=zhA g (by omega) (hashInt k) (.int k tk)
  rw[hL]
  dsimp only
  have nO:∀e∈jq.toList,∃k tk,e=(hashInt k,Value.int k tk):=λe he=>by
   rcases List.mem_append.mp (g0.mem_iff.mp he)with z|z
   ·exact fu e z
   ·exact⟨k,tk,List.mem_singleton.mp z⟩
  have jv:(jq.toList.map eY).Perm (ks++ [k]):=by
   refine(g0.map eY).trans ?_
   rw[jh]
   exact hp.append (qf _)
  have QT:(ks++ [k]).Nodup:=List.nodup_append.mpr ⟨hn,by simp,λx hx y hy=>by rw[List.mem_singleton.mp hy];exact λz=>hk (by rw[<-z];exact hx)⟩
  have zq:∀h',Heap.SameBut a s.heap h'->GS w h' a (ks++ [k])->Q true {s with heap:=h'}:=λh' hsb nQ=>by
   have:=h h' hsb
   rw[ax hk,cW hk]at this
   exact this nQ
  refine aC (aR ?_)
  rw[aA g1.pl,hashByValue_scannable 8 rfl]
  refine aC (aR ?_)
  simp only[plainKind,↓reduceIte]
  have Ea:jq.size<=sizeLine:=by rw[a7];omega
  refine aC (ve ho hd ?_ Ea)
  have Rg:=kc s.heap a (Obj.putSet jq t1)
  have QC:=BO (es2:=jq) (t2:=t1) ho hd
  cases hf:t1.tooFull with
  |false=>
   simp only[Bool.not_false,Bool.and_false,oR,↓reduceIte]
   have hq1:jq.size*5<t1.mask*3:=by
    have D8:¬(t1.fill*5>=t1.mask*3):=by
     unfold SetTable.tooFull at hf
     exact yQ hf
    rw[g1.fill]at D8
    omega
   refine aR (aR (zq _ Rg (GS.store ho hx hd g1 hq1 (by rw[jt];exact gZ) nO jv QT).2))
  |true=>
   simp only[Bool.not_false,Bool.and_true,↓reduceIte]
   have zu:SetTable.grown jq.size=jq.size*4:=by
    unfold SetTable.grown
    rw[ax (by omega)]
   obtain⟨es2,t2,hR,g2,fU,ju,wA,eV⟩:=zfy g1 (wanted:=SetTable.grown jq.size) (by rw[zu];omega) (by rw[zu];omega)
   obtain⟨_,DZ⟩:=yb (n:=SetTable.grown jq.size) (by rw[zu];omega)
   rw[hR]
   dsimp only
   refine aC (aR ?_)
   refine aC (ve QC rfl ?_ (by rw[a7];omega))
   have hq2:es2.size*5<t2.mask*3:=by
    rw[wA]
    rw[zu]at DZ ⊢
    omega
   refine aR (aR (zq _ (Rg.trans (kc _ a _)) (GS.store QC hx rfl g2 hq2 (by rw[ju,jt];exact gZ) (λe he=>nO e (eV.mem_iff.mp he)) ((eV.map eY).trans jv) QT).2))
end
open PySem
section
theorem Wl(h:n<128):SetTable.sizeAbove n<=128:=by
 obtain⟨h1,_⟩:=yb h
 unfold Mk at h1
 omega
theorem ahv{Q:Unit->ag->Prop}(hG:GS w s.heap a ks)(hw:wanted<128)(hn:ks.length*2<=wanted)(h7:1<=wanted)
  (h:∀h',Heap.SameBut a s.heap h'->GS w h' a ks->Q () {s with heap:=h'}):wpAny (model prog w) A (setRelay a wanted) Q E s:=by
 obtain⟨o,es,ep,t,ho,hx,hd,g,hq,gZ,fu,hp,dg⟩:=id hG
 have hsz:=GS.len (h:=s.heap) (a:=a) hp
 obtain⟨t2,order,e,g2,l2,m2,p2⟩:=My g (es.map (·.1)) (by simp) hw (by omega)
 obtain⟨_,DZ⟩:=yb hw
 have gk:=Ba p2
 have fU:(order.filterMap (es[·]?)).size=es.size:=by
  have:=gk.length_eq
  rw[gT,gT]at this
  exact this
 unfold setRelay
 refine aC (kg ho hd g.fits ?_)
 dsimp only
 rw[ax (by rw[a7];have:=Wl hw;omega),e]
 refine aC ?_
 show wpAny _ _ (if((order.filterMap (es[·]?)).size !=es.size)=true then _ else _) _ _ _
 rw[fU,ax (by simp)]
 refine aR ?_
 dsimp only
 refine ve ho hd ?_ (by rw[fU,a7];have:=(Bg g.mm).2;have:=g.lt;omega)
 refine h _ (kc s.heap a _) (GS.store ho hx hd (by rw[fU];exact g2) ?_ (by rw[l2];exact gZ) (λx hx=>fu x (gk.mem_iff.mp hx)) ((gk.map eY).trans hp) dg).2
 rw[fU,m2]
 omega
theorem ahw{more:Nat}{Q:Unit->ag->Prop}(hG:GS w s.heap a ks)(hm:ks.length+more<=60)
  (h:∀h',Heap.SameBut a s.heap h'->GS w h' a ks->Q () {s with heap:=h'}):wpAny (model prog w) A (setRoomFor a more) Q E s:=by
 obtain⟨o,es,ep,t,ho,hx,hd,g,hq,gZ,fu,hp,dg⟩:=id hG
 have hsz:=GS.len (h:=s.heap) (a:=a) hp
 unfold setRoomFor
 refine aC (kg ho hd g.fits ?_)
 dsimp only
 unfold SetTable.roomFor
 rw[g.fill,g.sz]
 by_cases c:(es.size+more)*5>=t.mask*3
 ·rw[aA c]
  dsimp only
  have:=(Bg g.mm).1
  exact ahv hG (by omega) (by omega) (by omega) h
 ·rw[ax c]
  have e:s={s with heap:=s.heap}:=by cases s;rfl
  have:=h s.heap (yM a s.heap) hG
  exact aR (by rw[e];exact this)
theorem VJ{f:Nat->PUnit->Sem (ForInStep PUnit)}{J:Nat->ag->Prop}{Q:PUnit->ag->Prop}:∀(m i:Nat) {s:ag},J i s->(∀j s',i<=j->j<i+m->J j s'->wpAny (model prog w) A (f j ⟨⟩) (λr s2=>r= .yield ⟨⟩/\J (j+1) s2) E s')->
  (∀s',J (i+m) s'->Q ⟨⟩ s')->wpAny (model prog w) A (forIn (List.range' i m) PUnit.unit f) Q E s
 |0,i,_,h,_,q=>aR (q _ h)
 |m+1,i,s,h,turn,q=>by
  show wpAny _ _ (forIn (i::List.range' (i+1) m) PUnit.unit f) _ _ _
  rw[List.forIn_cons]
  refine aC (gU (turn i s (bu i) (by omega) h) (λr s2 hr=>?_) λ_ _ z=>z)
  obtain⟨e,h2⟩:=hr
  subst e
  exact VJ m (i+1) h2 (λj s' a b c=>turn j s' (by omega) (by omega) c) λs' z=>q s' (by rw[show i+(m+1)=i+1+m by omega];exact z)
noncomputable def yR(h:aj)(d:ah)(js:aa Int):Prop:=∃o iX dep,h.get? d=some o/\o.ExactDict/\o.data= .dict iX dep/\iX.size=js.length/\∀(i:Nat) (e:DictEntry) (k:Int),iX[i]?=some e->js[i]?=some k->∃tk,e.key= .int k tk/\e.hash=hashInt k
noncomputable def iW(ks:aa Int)(k:Int):aa Int:=if k∈ks then ks else ks++ [k]
noncomputable def dF(ks js:aa Int):aa Int:=js.foldl iW ks
theorem Xn(ks:aa Int)(k:Int):(iW ks k).length<=ks.length+1:=by
 unfold iW
 split
 ·exact kM _
 ·simp
theorem yX:∀(js ks:aa Int),(dF ks js).length<=ks.length+js.length
 | [],ks=>bu _
 |k::r,ks=>by
  have h1:=yX r (iW ks k)
  have h2:=Xn ks k
  show(dF (iW ks k) r).length<=ks.length+(r.length+1)
  omega
theorem acM(ks:aa Int)(k x:Int):x∈iW ks k↔x∈ks\/x=k:=by
 unfold iW
 split
 ·rename_i h
  exact⟨.inl,λz=>z.elim id λe=>by rw[e];exact h⟩
 ·simp
theorem Aj(x:Int):∀(js ks:aa Int),x∈dF ks js↔x∈ks\/x∈js
 | [],ks=>by simp[dF]
 |k::r,ks=>by
  show x∈dF (iW ks k) r↔_
  rw[Aj x r,acM,hZ,or_assoc]
theorem zhM{k:Int}(h:js[i]?=some k)(ks:aa Int):dF ks (js.take (i+1))=iW (dF ks (js.take i)) k:=by
 unfold dF
 rw[sD,h,List.foldl_append]
 rfl
theorem zg9{nm:String}{d:ah}{Q:Unit->ag->Prop}(hG:GS w s.heap a ks)(hD:yR s.heap d js)(hS:(d==sysModules)=false)(hm:ks.length+js.length<=30)
  (h:∀h',Heap.SameBut a s.heap h'->GS w h' a (dF ks js)->Q () {s with heap:=h'}):wpAny (model prog w) A (Builtin.Frozenset.updateFrom nm a (.ref d)) Q E s:=by
 obtain⟨oo,iX,dep,pA,hex,dY,hsz,tF⟩:=id hD
 obtain⟨oa,es,ep,t,ho,hx,hd,_⟩:=id hG
 have dc:a≠d:=λz=>by
  rw[z,pA]at ho
  cases ho
  rw[dY]at hd
  cases hd
 have hT:s.TypeIs (.ref d) "dict":=⟨oo,pA,hex.1⟩
 unfold Builtin.Frozenset.updateFrom Builtin.Frozenset.isAnySet
 refine aC (aC (vc hT F.sub_dict_set ?_))
 refine vc hT F.sub_dict_frozenset ?_
 simp only[oR,↓reduceIte]
 refine aC (wpAny_typeOf hT ?_)
 rw[aA (by decide)]
 refine aC (wpAny_rule ?_)
 refine aC (aR ?_)
 rw[ax (by rw[hS];exact cb)]
 refine aC (wpAny_dictEpoch pA dY ?_)
 refine aC (wpAny_dictEntries pA dY ?_)
 refine aC (ahw hG (by omega) λh1 mX G1=>?_)
 have Q0:h1.get? d=some oo:=(mX.2 d (gH dc)).trans pA
 refine aC (wpAny_dictEntries Q0 dY ?_)
 have hrg:(Std.Legacy.Range.size ⟨0,iX.size,1,by decide⟩)=iX.size:=by
  show(iX.size-0+1-1) / 1=iX.size
  omega
 refine aC ?_
 rw[Std.Legacy.Range.forIn_eq_forIn_range',hrg]
 refine VJ (J:=λi s'=>∃h',s'={s with heap:=h'}/\GS w h' a (dF ks (js.take i))/\h'.get? d=some oo/\Heap.SameBut a s.heap h') iX.size 0 ⟨h1,rfl,G1,Q0,mX⟩ (λi s' _ hi hJ=>?_) λs' hJ=>?_
 ·obtain⟨h',rfl,nN,QZ,i6⟩:=hJ
  have bq:i<iX.size:=by omega
  have dH:i<js.length:=by omega
  have hk:js[i]?=some js[i]:=jF dH
  obtain⟨tk,Ek,ZG⟩:=tF i iX[i] js[i] (fX bq) hk
  have hlen:(dF ks (js.take i)).length<=30:=by
   have e1:=yX (js.take i) ks
   rw[iT]at e1
   omega
  refine aC (wpAny_dictEntries QZ dY ?_)
  have he:iX[i]?=some iX[i]:=fX bq
  rw[he]
  dsimp only
  rw[Ek,ZG]
  refine aC (oU (Uk nN hlen λh2 uh G2=>?_))
  have Q1:h2.get? d=some oo:=(uh.2 d (gH dc)).trans QZ
  refine aC (wpAny_dictEpoch Q1 dY ?_)
  rw[ax (by simp)]
  exact aR ⟨rfl,h2,rfl,by rw[zhM hk];exact G2,Q1,i6.trans uh⟩
 ·obtain⟨h',rfl,nN,_,i6⟩:=hJ
  rw[Nat.zero_add,hsz,kL]at nN
  exact aR (h h' i6 nN)
end
open PySem PySem.Spec
theorem Bf:∀(js ks:aa Int),(ks++js).Nodup->dF ks js=ks++js
 | [],ks,_=>by simp[dF]
 |k::r,ks,h=>by
  have hk:k∉ks:=λz=>(List.nodup_append.mp h).2.2 k z k bA rfl
  show dF (iW ks k) r=_
  have:iW ks k=ks++ [k]:=ax hk
  rw[this,Bf r (ks++ [k]) (by rw[B3];exact h),B3]
  rfl
section
noncomputable abbrev lG(w:World):Obj:={cls:=.type "set",dict:=none,data:=.set #[] 0 (.fresh 0 0 (!gf w))}
theorem Qh(e:h.get? a=some (lG w)):GS w h a []:=⟨_,#[],0,_,e,⟨rfl,rfl,rfl⟩,rfl,ziZ _,by show 0*5<7*3;decide,rfl,λ_ h=>absurd h (by simp),qf _,sC⟩
theorem uz{Q:ai->ag->Prop}(h:Q (gf w) s):wpAny (model prog w) A setsByText Q E s:=
 aC (wpAny_askSetting (aR h))
theorem UT(h:Q (.ref s.heap.objs.size) {s with heap:=s.heap.push (lG w)}):wpAny (model prog w) A (newSet (.type "set")) Q E s:=by
 unfold newSet newObj
 exact aC (uz (aC (wpAny_alloc (aR h))))
theorem zgX{T newId Fe:String}{Bi:Builtin}{args:aa af}{Q Q₁:af->ag->Prop}(ft:TypeCalled T newId Fe)(ck:checkTypeCall T ⟨args,[]⟩=pure ())(en:entryFor table Fe=some Bi)
  (made:codeAny (model prog w) A.in1 (.call (.builtin newId) ⟨.type T::args,[]⟩) (wants Q₁ E) s)
  (next:∀x s1,Q₁ x s1->s1.TypeIs x T/\wpAny (model prog w) A.in1.in1 (checkBuiltinCall Fe ⟨x::args,[]⟩) (λ_ s2=>wpAny (model prog w) A.in1.in1 (Bi ⟨x::args,[]⟩)
   (λfin s3=>match fin with
    | .done f=>wants (λr s4=>r= .none/\Q x s4) E (.ok f) s3
    | .again c=>c.quiet=true/\codeAny (model prog w) A.in1 c (wants (λr s4=>r= .none/\Q x s4) E) s3) (λe s3=>wants (λr s4=>r= .none/\Q x s4) E (.error e) s3) s2)
   (λe s2=>wants (λr s4=>r= .none/\Q x s4) E (.error e) s2) s1):wpAny (model prog w) A (call (.type T) args) Q E s:=by
 obtain⟨m0,m1,m2⟩:=ft.mro
 obtain⟨k1,k2,k3,k4,k5⟩:=And.intro ft.made (And.intro ft.sub (And.intro ft.notType (And.intro ft.canCreate ft.init.lookup)))
 refine wpAny_call (codeAny_of_tree (show wpAny _ _ (callAny (.type T) ⟨args,[]⟩) _ _ _ from aR ⟨Code.quiet_builtin _ (by decide+kernel),u_ F.entry_type_call ?_⟩))
 rw[Around.under_plain (weight_type_call_type T args []) rfl]
 repeat(any_goals(first|with_reducible assumption|wp_step))
 refine va made λr s1 hr=>?_
 rcases r with e|fl
 ·exact hr
 rcases fl with _|_|_|x
 all_goals try exact hr.elim
 obtain⟨hT,Zc⟩:=next x s1 hr
 have k6:=ft.init.bind x
 repeat(any_goals(first|with_reducible assumption|wp_step))
 refine va (codeAny_call_builtin ft.init.plain en Zc) λr2 s2 di=>?_
 rcases r2 with e|Yy
 ·exact di
 rcases Yy with _|_|_|y
 all_goals try exact di.elim
 obtain⟨rfl,q⟩:=di
 repeat(any_goals(first|with_reducible assumption|wp_step))
theorem zgz(a:af){Q₁:af->ag->Prop}(h:Q₁ (.ref s.heap.objs.size) {s with heap:=s.heap.push (lG w)}):codeAny (model prog w) A (.call (.builtin "set.__new__") ⟨[.type "set",a],[]⟩) (wants Q₁ E) s:=by
 have su:=sub_set_self
 refine codeAny_of_tree (aC (sM (F.newCall_set_1 a) (aR (And.intro (sI F.plain_set_new _) (u_ F.entry_set_new ?_)))))
 rw[Around.under_plainId F.plain_set_new]
 unfold Builtin.«set.__new__»
 unfold Builtin.Frozenset.newClass
 generalize hN:newSet=N
 wp_walk
 subst hN
 exact UT (aR h)
theorem XE{d:ah}{Q:af->ag->Prop}(hD:yR s.heap d js)(YX:(d==sysModules)=false)(dg:js.Nodup)(hm:js.length<=30)
  (h:∀h',GS w h' s.heap.objs.size js->(∀b o,s.heap.get? b=some o->h'.get? b=some o)->Q (.ref s.heap.objs.size) {s with heap:=h'}):
  wpAny (model prog w) A (call (.type "set") [.ref d]) Q E s:=by
 refine zgX F.called_set (F.typeCall_set_1 (.ref d)) F.entry_set_init (zgz (.ref d) (Q₁:=λx s1=>x= .ref s.heap.objs.size/\s1={s with heap:=s.heap.push (lG w)}) ⟨rfl,rfl⟩) λx s1 hx=>?_
 obtain⟨rfl,rfl⟩:=hx
 have hS:(s.heap.push (lG w)).get? s.heap.objs.size=some (lG w):=eR _ rfl
 have hT:Shared.TypeIs {s with heap:=s.heap.push (lG w)} (.ref s.heap.objs.size) "set":=⟨_,hS,rfl⟩
 have YT:yR (s.heap.push (lG w)) d js:=by
  obtain⟨o,iX,dep,e,c⟩:=hD
  exact⟨o,iX,dep,cL _ e,c⟩
 refine⟨hT,check_set_init_1 hT ?_⟩
 unfold Builtin.«set.__init__»
 unfold noKeywords
 generalize YY:Builtin.Frozenset.updateFrom=UF
 wp_walk
 subst YY
 refine zg9 (ks:=[]) (js:=js) (Qh hS) YT YX (by simpa using hm) λh' sb G=>?_
 rw[Bf js [] (by simpa using dg)]at G
 refine aR ⟨rfl,h h' (by simpa using G) λb o e=>?_⟩
 exact(sb.2 b (cU (cc e))).trans (cL _ e)
end
open PySem PySem.Spec
theorem Uz{α:Type}:∀{l:aa α} {i:Nat} {x:α},l[i]?=some x->l.Perm (x::l.eraseIdx i)
 | [],i,x,h=>by simp at h
 |y::r,0,x,h=>by
  have e:y=x:=by simpa using h
  subst e
  exact qf _
 |y::r,i+1,x,h=>by
  have e:r[i]?=some x:=by simpa using h
  rw[List.eraseIdx_cons_succ]
  exact(List.Perm.cons y (Uz e)).trans (List.Perm.swap x y _)
theorem Wa{α:Type}(next:Nat->Nat):∀(fuel k:Nat) (left:aa α) (out:Array α),left.length=fuel->(pickOrder.go next fuel k left out).toList.Perm (out.toList++left)
 |0,k,left,out,h=>by
  have:left= []:=List.length_eq_zero_iff.mp h
  subst this
  simp[pickOrder.go]
 |fuel+1,k,left,out,h=>by
  unfold pickOrder.go
  have bq:next k % left.length<left.length:=Nat.mod_lt _ (by omega)
  have hx:left[next k % left.length]?=some left[next k % left.length]:=jF bq
  rw[hx]
  dsimp only
  refine(Wa next fuel (k+1) _ _ (by rw[List.length_eraseIdx,aA bq];omega)).trans ?_
  rw[Array.toList_push,B3]
  exact List.Perm.append_left _ (Uz hx).symm
theorem Vr{α:Type}(next:Nat->Nat)(xs:Array α):(pickOrder next xs).toList.Perm xs.toList:=by
 have:=Wa next xs.size 0 xs.toList #[] (by simp)
 simpa [pickOrder]using this
section
theorem GS.perm{us:aa Int}(g:GS w h a ks)(p:ks.Perm us):GS w h a us:=by
 obtain⟨o,es,ep,t,ho,hx,hd,g,hq,gZ,fu,hp,dg⟩:=g
 exact⟨o,es,ep,t,ho,hx,hd,g,hq,gZ,fu,hp.trans p,p.nodup_iff.mp dg⟩
theorem GS.keep(g:GS w h a ks)(k:∀o,h.get? a=some o->h'.get? a=some o):GS w h' a ks:=by
 obtain⟨o,es,ep,t,ho,c⟩:=g
 exact⟨o,es,ep,t,k o ho,c⟩
theorem ahz{Q:Array (Int×af)->ag->Prop}(hG:GS w s.heap a ks)
  (h:∀es:Array (Int×af),(∀e∈es.toList,∃k tk,e=(hashInt k,Value.int k tk))->(es.toList.map eY).Perm ks->Q es s):wpAny (model prog w) A (setWalk a) Q E s:=by
 obtain⟨o,es,ep,t,ho,hx,hd,g,hq,gZ,fu,hp,dg⟩:=hG
 unfold setWalk
 refine aC (kg ho hd g.fits ?_)
 dsimp only
 refine aC (uz ?_)
 cases hb:gf w with
 |true=>
  simp only[↓reduceIte]
  refine aC (wpAny_askSetting (aR ?_))
  have pp:=Vr ((⟨prog,w.params⟩:Setting).params.setOrder a ep) es
  exact h _ (λe he=>fu e (pp.mem_iff.mp he)) ((pp.map eY).trans hp)
 |false=>
  simp only[oR,↓reduceIte]
  have wm:(!t.plain&&decide (es.size > 1))=false:=by rw[g.pl];rfl
  have EA:(!t.led&&decide (es.size > 1))=false:=by rw[gZ,hb];rfl
  show wpAny _ _ (if(!t.plain&&decide (es.size > 1))=true then _ else _) _ _ _
  rw[wm,ax cb]
  refine aC ?_
  show wpAny _ _ (if(!t.led&&decide (es.size > 1))=true then _ else _) _ _ _
  rw[EA,ax cb]
  exact aR (aR (h es fu hp))
theorem ahA{others:aa ah}{filled:ae ah}{Q:Array (Int×af)->ag->Prop}(hG:GS w s.heap a ks)
  (h:∀es:Array (Int×af),(∀e∈es.toList,∃k tk,e=(hashInt k,Value.int k tk))->(es.toList.map eY).Perm ks->Q es s):wpAny (model prog w) A (setWalkUnseen a others filled) Q E s:=by
 obtain⟨o,es,ep,t,ho,hx,hd,g,hq,gZ,_⟩:=id hG
 unfold setWalkUnseen
 refine aC (kg ho hd g.fits ?_)
 dsimp only
 refine aC (uz ?_)
 have:(gf w||t.led&&t.plain||decide (es.size<=1))=true:=by
  rw[gZ,g.pl]
  cases gf w<;>rfl
 rw[aA (by simpa using this)]
 exact ahz hG h
theorem Mv:∀(js ks:aa Int),ks.Nodup->(dF ks js).Nodup
 | [],ks,h=>h
 |k::r,ks,h=>by
  refine Mv r (iW ks k) ?_
  unfold iW
  split
  ·exact h
  ·rename_i hk
   exact List.nodup_append.mpr ⟨h,by simp,λx hx y hy=>by rw[List.mem_singleton.mp hy];exact λz=>hk (by rw[<-z];exact hx)⟩
theorem zhN{RJ:aa Int}(hn:ks.Nodup)(hp:js.Perm RJ):(dF ks js).Perm (dF ks RJ):=
 (List.perm_ext_iff_of_nodup (Mv _ _ hn) (Mv _ _ hn)).mpr λx=>by rw[Aj,Aj,hp.mem_iff]
theorem aht{b:ah}{ob:Obj}{each:Sem Unit}{Q:Unit->ag->Prop}{Px:Nat}(iI:a≠b)(hA:GS w s.heap a ks)(hB:GS w s.heap b js)(gj:s.heap.get? b=some ob)
  (Zt:∀es ep t,ob.data= .set es ep t->ep=Px) (D6:∀(s':ag) (Q:Unit->ag->Prop),s'.heap.get? b=some ob->Q () s'->wpAny (model prog w) A each Q E s') (hm:ks.length+js.length<=30)
  (h:∀h',Heap.SameBut a s.heap h'->GS w h' a (dF ks js)->Q () {s with heap:=h'}):
  wpAny (model prog w) A (do
   for (hh,x) in <-setWalkUnseen b [a] (some a) do
    let _ <-holding [x] (setAddHashed a x hh)
    each
    if(<-setState b).2.1 !=Px then unsupported "set.changed-during-merge") Q E s:=by
 obtain⟨o,esb,Pw,tb,ho,hx,hd,g,_⟩:=id hB
 rw[gj]at ho
 cases ho
 have he:=Zt _ _ _ hd
 subst he
 have El:ks.Nodup:=by obtain⟨_,_,_,_,_,_,_,_,_,_,_,_,z⟩:=hA;exact z
 refine aC (ahA hB λes h1 h2=>?_)
 have hlen:es.toList.length=js.length:=by rw[<-h2.length_eq,bH]
 refine aC ?_
 rw[<-Array.forIn_toList]
 refine wpAny_forIn_list _
  (λrest _ s'=>∃h' i,s'={s with heap:=h'}/\rest=es.toList.drop i/\i<=es.toList.length/\GS w h' a (dF ks ((es.toList.take i).map eY))/\h'.get? b=some ob/\Heap.SameBut a s.heap h')
  _ ?_ ?_ _ _ ⟨s.heap,0,rfl,by simp,dD _,by simpa [dF]using hA,gj,yM _ _⟩
 ·rintro x rest bb s' ⟨h',i,rfl,hr,hi,nN,QW,i6⟩
  have E_:es.toList[i]?=some x:=by
   have:=dA List.head? hr
   rw[List.head?_drop]at this
   simpa using this.symm
  have EU:rest=es.toList.drop (i+1):=by
   have:=dA List.tail hr
   rw[List.tail_drop]at this
   simpa using this
  have bq:i<es.toList.length:=(List.getElem?_eq_some_iff.mp E_).1
  obtain⟨k,tk,rfl⟩:=h1 x (d6 E_)
  dsimp only
  have Es:(dF ks ((es.toList.take i).map eY)).length<=30:=by
   have e1:=yX ((es.toList.take i).map eY) ks
   rw[bH,iT]at e1
   omega
  refine aC (oU (Uk nN Es λDR Ti W4=>?_))
  have EG:DR.get? b=some ob:=(Ti.2 b (gH iI)).trans QW
  refine aC (D6 _ _ EG ?_)
  refine aC (kg (s:={s with heap:=DR}) EG hd g.fits ?_)
  dsimp only
  rw[ax (by simp)]
  refine aR ⟨DR,i+1,rfl,EU,bq,?_,EG,i6.trans Ti⟩
  have:(es.toList.take (i+1)).map eY=(es.toList.take i).map eY++ [k]:=by
   rw[sD,E_,jh]
   rfl
  rw[this]
  unfold dF
  rw[List.foldl_append]
  exact W4
 ·rintro bb s' ⟨h',i,rfl,hr,hi,nN,QW,i6⟩
  have wq:i=es.toList.length:=by
   have:=dA List.length hr
   rw[B8]at this
   simp at this
   simp
   simp at hi
   omega
  have:es.toList.take i=es.toList:=by rw[wq,kL]
  rw[this]at nN
  exact aR (h h' i6 (nN.perm (zhN El h2)))
end
open PySem PySem.Spec
section
noncomputable def Co(w:World)(h:aj)(a:ah)(ks:aa Int)(m:Nat):Prop:=∃o es ep t,h.get? a=some o/\o.ExactSet/\o.data= .set es ep t/\Good t es.size/\es.size*5<t.mask*3/\t.led= !gf w/\
 (∀e∈es.toList,∃k tk,e=(hashInt k,Value.int k tk))/\(es.toList.map eY).Perm ks/\ks.Nodup/\m*5<t.mask*3
theorem Co.gs{m:Nat}(g:Co w h a ks m):GS w h a ks:=by
 obtain⟨o,es,ep,t,ho,hx,hd,g,hq,gZ,fu,hp,dg,_⟩:=g
 exact⟨o,es,ep,t,ho,hx,hd,g,hq,gZ,fu,hp,dg⟩
theorem ahx{more:Nat}{Q:Unit->ag->Prop}(hG:GS w s.heap a ks)(hm:ks.length+more<=60)
  (h:∀h',Heap.SameBut a s.heap h'->Co w h' a ks (ks.length+more)->Q () {s with heap:=h'}):wpAny (model prog w) A (setRoomFor a more) Q E s:=by
 obtain⟨o,es,ep,t,ho,hx,hd,g,hq,gZ,fu,hp,dg⟩:=id hG
 have hsz:=GS.len (h:=s.heap) (a:=a) hp
 obtain⟨m1,m2⟩:=Bg g.mm
 unfold setRoomFor
 refine aC (kg ho hd g.fits ?_)
 dsimp only
 unfold SetTable.roomFor
 rw[g.fill,g.sz]
 by_cases c:(es.size+more)*5>=t.mask*3
 ·rw[aA c]
  dsimp only
  have hw:(es.size+more)*2<128:=by omega
  obtain⟨t2,order,e,g2,l2,Sq,p2⟩:=My g (es.map (·.1)) (by simp) hw (by omega)
  obtain⟨_,DZ⟩:=yb hw
  have gk:=Ba p2
  have fU:(order.filterMap (es[·]?)).size=es.size:=by
   have:=gk.length_eq
   rw[gT,gT]at this
   exact this
  unfold setRelay
  refine aC (kg ho hd g.fits ?_)
  dsimp only
  rw[ax (by rw[a7];have:=Wl hw;omega),e]
  refine aC ?_
  show wpAny _ _ (if((order.filterMap (es[·]?)).size !=es.size)=true then _ else _) _ _ _
  rw[fU,ax (by simp)]
  refine aR ?_
  dsimp only
  refine ve ho hd ?_ (by rw[fU,a7];have:=g.lt;omega)
  have zw:=BO (es2:=order.filterMap (es[·]?)) (t2:=t2) ho hd
  refine h _ (kc s.heap a _) ⟨_,_,_,_,zw,hx,rfl,by rw[fU];exact g2,?_,by rw[l2];exact gZ,λx hx=>fu x (gk.mem_iff.mp hx),(gk.map eY).trans hp,dg,?_⟩
  ·rw[fU,Sq]
   omega
  ·rw[Sq]
   omega
 ·rw[ax c]
  have e:s={s with heap:=s.heap}:=by cases s;rfl
  have:=h s.heap (yM a s.heap) ⟨o,es,ep,t,ho,hx,hd,g,hq,gZ,fu,hp,dg,by omega⟩
  exact aR (by rw[e];exact this)
theorem VA{b:ah}{each:Sem Unit}{Q:Unit->ag->Prop}(iI:a≠b)(hA:GS w s.heap a ks)(hB:GS w s.heap b js)
  (D6:∀(s':ag) (Q:Unit->ag->Prop),s'.heap.get? b=s.heap.get? b->Q () s'->wpAny (model prog w) A each Q E s') (hm:ks.length+js.length<=30)
  (h:∀h',Heap.SameBut a s.heap h'->GS w h' a (dF ks js)->Q () {s with heap:=h'}):wpAny (model prog w) A (setMerge a b each) Q E s:=by
 obtain⟨ob,eb,Pw,tb,gj,hxb,fq,gb,hqb,QN,Zu,Q5,QS⟩:=id hB
 have akh:=GS.len (h:=s.heap) (a:=b) Q5
 unfold setMerge
 rw[ax (by simpa using iI)]
 refine aC (kg gj fq gb.fits ?_)
 dsimp only
 have Yn:s={s with heap:=s.heap}:=by cases s;rfl
 cases Zs:eb.isEmpty with
 |true=>
  simp only[↓reduceIte]
  have:js= []:=by
   have:eb.size=0:=by simpa using Zs
   exact List.length_eq_zero_iff.mp (by omega)
  subst this
  exact aR (by rw[Yn];exact h s.heap (yM a s.heap) hA)
 |false=>
  simp only[oR,↓reduceIte]
  refine aC (ahx hA (by omega) λh1 mX G1=>?_)
  have Z9:h1.get? b=some ob:=(mX.2 b (gH iI)).trans gj
  obtain⟨oa,ea,epa,ta,nT,hxa,zp,ga,hqa,QM,ajZ,hpa,aka,Rb⟩:=id G1
  refine aC (kg (s:={s with heap:=h1}) nT zp ga.fits ?_)
  dsimp only
  have Rj:=GS.len (h:=h1) (a:=a) hpa
  cases hk:ks with
  |nil=>
   subst hk
   have Y0:ea.size=0:=by simpa using Rj
   have D_:(ta.fill !=0)=false:=by rw[ga.fill,Y0];rfl
   have Y2:dF [] js=js:=by rw[Bf js [] (by simpa using QS)];rfl
   unfold SetTable.road
   rw[D_,ax cb]
   have zw:∀(dR:Array (Int×af)) (t':SetTable),Good t' dR.size->dR.size*5<t'.mask*3->t'.led= !gf w->dR.toList.Perm eb.toList->GS w (h1.update a (Obj.putSet dR t')) a (dF [] js):=λdR t' g' q' l' p'=>by
    rw[Y2]
    exact(GS.store nT hxa zp g' q' l' (λx hx=>Zu x (p'.mem_iff.mp hx)) ((p'.map eY).trans Q5) QS).2
   by_cases qG:(ta.mask==tb.mask&&tb.dummies.isEmpty)=true
   ·rw[aA qG]
    dsimp only
    refine ve (s:={s with heap:=h1}) nT zp ?_ (by rw[a7];omega)
    refine h _ (mX.trans (kc h1 a _)) (zw eb _ ⟨gb.mm,gb.AE,gb.sz,gb.le,gb.dm,?_,gb.lt⟩ hqb ?_ (qf _))
    ·show(ta.plain&&tb.plain)=true
     rw[ga.pl,gb.pl]
     rfl
    ·show(ta.led&&tb.led)= !gf w
     rw[QM,QN,Bool.and_self]
   ·rw[ax qG]
    dsimp only
    have zP:([]:aa Int).length+eb.size=eb.size:=by simp
    rw[zP]at Rb
    obtain⟨t2,order,e,g2,m2,l2,p2⟩:=U8 ga.mm ta.finger ta.moves (ta.led&&tb.led) (eb.map (·.1)) (by rw[Array.size_map];omega)
    rw[Array.size_map]at g2 p2
    have gk:=Ba p2
    have fU:(order.filterMap (eb[·]?)).size=eb.size:=by
     have:=gk.length_eq
     rw[gT,gT]at this
     exact this
    have eX:(ta.plain&&tb.plain)=true:=by rw[ga.pl,gb.pl];rfl
    rw[eX,e]
    refine aC ?_
    show wpAny _ _ (if((order.filterMap (eb[·]?)).size !=eb.size)=true then _ else _) _ _ _
    rw[fU,ax (by simp)]
    refine aR ?_
    dsimp only
    refine ve (s:={s with heap:=h1}) nT zp ?_ (by rw[fU,a7];omega)
    refine h _ (mX.trans (kc h1 a _)) (zw _ t2 (by rw[fU];exact g2) (by rw[fU,m2];exact Rb) ?_ gk)
    rw[l2,QM,QN,Bool.and_self]
  |cons k0 kr=>
   have D_:(ta.fill !=0)=true:=by
    rw[ga.fill,Rj,hk]
    rfl
   unfold SetTable.road
   rw[D_,aA rfl]
   dsimp only
   refine aht (s:={s with heap:=h1}) iI G1.gs (hB.keep λo e=>(mX.2 b (gH iI)).trans e) Z9 (λdR zc t' e=>?_) (λs' Q' e q=>D6 s' Q' (e.trans gj.symm) q) hm (λh' sb G=>h h' (mX.trans sb) G)
   rw[fq]at e
   cases e
   rfl
end
open PySem PySem.Spec
theorem zgS:entryFor table "set.__or__"=some Builtin.«frozenset.__or__»:=entryFor_alias (id':="frozenset.__or__") (by kernel_rfl) rfl (by decide+kernel) (by kernel_rfl)
section
theorem GS.type(g:GS w s.heap a ks):s.TypeIs (.ref a) "set":=by
 obtain⟨o,es,ep,t,ho,hx,_⟩:=g
 exact⟨o,ho,hx.1⟩
theorem MS{Q:ai->ag->Prop}(hT:s.TypeIs (.ref a) "set")(h:Q true s):wpAny (model prog w) A (Builtin.Frozenset.isAnySet (.ref a)) Q E s:=by
 unfold Builtin.Frozenset.isAnySet
 refine aC (vc hT sub_set_self ?_)
 exact aR h
theorem zja{Q:af->ag->Prop}(hG:GS w s.heap a ks)(hm:ks.length<=30)
  (h:∀h',GS w h' s.heap.objs.size ks->(∀b o,s.heap.get? b=some o->h'.get? b=some o)->Q (.ref s.heap.objs.size) {s with heap:=h'}):wpAny (model prog w) A (Builtin.Frozenset.copyOf a) Q E s:=by
 obtain⟨o,es,ep,t,ho,_⟩:=id hG
 have dg:ks.Nodup:=by obtain⟨_,_,_,_,_,_,_,_,_,_,_,_,z⟩:=hG;exact z
 have bq:=cc ho
 unfold Builtin.Frozenset.copyOf Builtin.Frozenset.baseOf
 refine aC (aC (vc hG.type sub_set_self ?_))
 simp only[↓reduceIte]
 refine aR (aC (UT ?_))
 refine aC (aR ?_)
 have hN:GS w (s.heap.push (lG w)) s.heap.objs.size []:=Qh (eR _ rfl)
 have YU:GS w (s.heap.push (lG w)) a ks:=hG.keep λo e=>cL _ e
 refine aC (VA (s:={s with heap:=s.heap.push (lG w)}) (a:=s.heap.objs.size) (b:=a) (oT bq) hN YU (λs' Q' _ q=>aR q) (by simpa using hm) λh' sb G=>?_)
 rw[Bf ks [] (by simpa using dg)]at G
 refine aR (h h' (by simpa using G) λb o e=>?_)
 exact(sb.2 b (cU (cc e))).trans (cL _ e)
theorem ziC{nm:String}{b:ah}{Q:Unit->ag->Prop}(iI:a≠b)(hA:GS w s.heap a ks)(hB:GS w s.heap b js)(hm:ks.length+js.length<=30)
  (h:∀h',Heap.SameBut a s.heap h'->GS w h' a (dF ks js)->Q () {s with heap:=h'}):wpAny (model prog w) A (Builtin.Frozenset.updateFrom nm a (.ref b)) Q E s:=by
 obtain⟨ob,eb,Pw,tb,gj,hxb,fq,gb,_⟩:=id hB
 unfold Builtin.Frozenset.updateFrom
 refine aC (MS hB.type ?_)
 simp only[↓reduceIte]
 refine aC (aR ?_)
 unfold Builtin.Frozenset.merge
 refine aC (wpAny_setEpoch_of gj fq gb.fits ?_)
 refine VA iI hA hB (λs' Q' e q=>?_) hm h
 unfold Builtin.Frozenset.unchanged
 refine aC (wpAny_setEpoch_of (e.trans gj) fq gb.fits ?_)
 rw[ax (by simp)]
 exact aR q
theorem ahu{b:ah}{Q:af->ag->Prop}(iI:a≠b)(hA:GS w s.heap a ks)(hB:GS w s.heap b js)(hm:ks.length+js.length<=30)
  (h:∀h',GS w h' s.heap.objs.size (dF ks js)->(∀b o,s.heap.get? b=some o->h'.get? b=some o)->Q (.ref s.heap.objs.size) {s with heap:=h'}):wpAny (model prog w) A (binaryOp .BitOr (.ref a) (.ref b)) Q E s:=by
 refine wpAny_binaryOp_same (op:=.BitOr) (T:="set") hA.type hB.type F.fills_set_or F.slot_set_or
  (vb F.slot_set_or hA.type zgS ?_ (F.args_set_or_2 _ _))
 show wpAny _ _ (do
  let(self,other) <-Builtin.Frozenset.slot1 "__or__" ⟨[.ref a,.ref b],[]⟩
  let(l,r):=if false then(other,self)else(self,other)
  if !(<-Builtin.Frozenset.isAnySet l <&&> Builtin.Frozenset.isAnySet r)then rule s!"frozenset.{"__or__"}.declined";return <-ret .notImplemented
  ret (<- (do
   let result <-Builtin.Frozenset.copyOf (<-Builtin.Frozenset.addrOf l)
   if r != .ref (<-Builtin.Frozenset.addrOf l)then holding [result] (Builtin.Frozenset.updateFrom s!"frozenset.{"__or__"}" (<-Builtin.Frozenset.addrOf result) r)
   return result))) _ _ _
 have dg:ks.Nodup:=by obtain⟨_,_,_,_,_,_,_,_,_,_,_,_,z⟩:=hA;exact z
 refine aC (sM (show Builtin.Frozenset.slot1 "__or__" ⟨[.ref a,.ref b],[]⟩=pure (.ref a,.ref b)from rfl) ?_)
 dsimp only
 simp only[oR,↓reduceIte]
 refine aC (aC (MS hA.type ?_))
 refine MS hB.type ?_
 simp only[Bool.not_true,oR,↓reduceIte]
 refine aC ?_
 refine aC (aR ?_)
 refine aC (zja hA (by omega) λh1 G1 k1=>?_)
 have dc:((Value.ref b) !=Value.ref a)=true:=by simpa using λz:b=a=>iI z.symm
 refine aC (aR ?_)
 rw[aA dc]
 refine aC (aR ?_)
 have fm:GS w h1 b js:=hB.keep (k1 b)
 have Y_:b<s.heap.objs.size:=by obtain⟨_,_,_,_,e,_⟩:=hB;exact cc e
 refine aC (oU (ziC (s:={s with heap:=h1}) (oT Y_) G1 fm hm λh2 uh G2=>?_))
 refine aR (aR ⟨_,rfl,by simp,h h2 G2 λc o e=>?_⟩)
 exact(uh.2 c (cU (cc e))).trans (k1 c o e)
end
open PySem PySem.Spec
theorem zeM:entryFor table "set.__iter__"=some Builtin.«frozenset.__iter__»:=entryFor_alias (id':="frozenset.__iter__") (by kernel_rfl) rfl (by decide+kernel) (by kernel_rfl)
theorem Wm{nm:Str}{id n:String}(l:typeLookup (.type "set_iterator") nm=pure (some (.builtin id)))(c:splitId id=some ("set_iterator",n))(c1:withoutEnding? id "#opaque"=none)(c2:withoutEnding? id "#data"=none)
  (c3:(Manifest.find? "set_iterator").bind (·.attrs.lookup n)=some .slot) (c4:plainId id=true):Slot "set_iterator" nm id:=
 Slot.of l c c1 c2 (Or.inl c3) (by rw[isSubtype_type];kernel_rfl) c4
theorem uC:Slot "set_iterator" "__next__" "set_iterator.__next__":=Wm (n:="__next__") (by rw[typeLookup_type,OU];kernel_rfl) (by decide+kernel) (by decide+kernel) (by decide+kernel) (by decide+kernel) (by decide+kernel)
theorem Uy:entryFor table "set_iterator.__next__"=some Builtin.«set_iterator.__next__»:=entryFor_of_tree (by kernel_rfl)
theorem Uu(a:af):argsOk "set_iterator.__next__" ⟨[a],[]⟩:=by unfold argsOk;kernel_rfl
structure SO(w:World)(o:Obj)(es:Array (Int×Value))(ep:Nat)(t:SetTable)(ks:List Int):Prop where
 ex:o.ExactSet
 dt:o.data= .set es ep t
 g:Good t es.size
 led:t.led= !gf w
 el:∀e∈es.toList,∃k tk,e=(hashInt k,Value.int k tk)
 pm:(es.toList.map eY).Perm ks
 nd:ks.Nodup
theorem GS.so(g:GS w h a ks):∃o es ep t,h.get? a=some o/\SO w o es ep t ks:=by
 obtain⟨o,es,ep,t,ho,hx,hd,g,hq,gZ,fu,hp,dg⟩:=g
 exact⟨o,es,ep,t,ho,hx,hd,g,gZ,fu,hp,dg⟩
noncomputable def hU(w:World)(a:ah)(es:Array (Int×af))(ep:Nat):Array (Int×af):=if gf w=true then pickOrder (w.params.setOrder a ep) es else es
theorem MD(w:World)(a:ah)(es:Array (Int×af))(ep:Nat):(hU w a es ep).toList.Perm es.toList:=by
 unfold hU
 split
 ·exact Vr _ _
 ·exact qf _
theorem A6(w:World)(a:ah)(es:Array (Int×af))(ep:Nat):(hU w a es ep).size=es.size:=by
 have:=(MD w a es ep).length_eq
 rwa [gT,gT]at this
noncomputable def jc(t:SetTable)(i:Nat):Nat:=match i with
 |0=>0
 |i+1=>t.place.getD i 0+1
theorem zi6{t:SetTable}(h:jm t.place)(hi:i<=t.place.size):SetTable.below t.place (jc t i)=i:=by
 obtain⟨h1,h2,h3⟩:=Nb h (jc t i)
 cases i with
 |zero=>
  by_cases c:0<SetTable.below t.place (jc t 0)
  ·have:=h2 0 c
   have e:jc t 0=0:=rfl
   omega
  ·omega
 |succ i=>
  have e:jc t (i+1)=t.place.getD i 0+1:=rfl
  have up:¬SetTable.below t.place (jc t (i+1))<=i:=λz=>by
   have:=h3 i z (by omega)
   omega
  by_cases c:i+1<SetTable.below t.place (jc t (i+1))
  ·have a1:=h2 (i+1) c
   have a2:=BH h (show i<i+1 by omega) (show i+1<t.place.size by omega)
   omega
  ·omega
section
variable {es:Array (Int×af)} {t:SetTable}
theorem UD{Q:ae (af×Nat)->ag->Prop}(ho:s.heap.get? a=some o)(g:SO w o es ep t ks)(hi:i<=es.size)(hs:gf w=false->slot=jc t i)
  (h:∀nx,(gf w=false->nx=jc t (i+1))->Q (((hU w a es ep)[i]?).map λe=>(e.2,nx)) s):wpAny (model prog w) A (setNext a slot i ep) Q E s:=by
 unfold setNext
 refine aC (kg ho g.dt g.g.fits ?_)
 dsimp only
 refine aC (uz ?_)
 cases hb:gf w with
 |true=>
  simp only[↓reduceIte]
  rw[ax (by simp)]
  unfold setWalk
  refine aC (aC (kg ho g.dt g.g.fits ?_))
  dsimp only
  refine aC (uz ?_)
  rw[aA hb]
  refine aC (wpAny_askSetting (aR ?_))
  have hw:hU w a es ep=pickOrder (w.params.setOrder a ep) es:=by unfold hU;rw[aA hb]
  have:=h slot (λz=>by rw[hb]at z;cases z)
  rw[hw]at this
  exact aR this
 |false=>
  simp only[oR,↓reduceIte]
  have wm:(!t.plain&&decide (es.size > 1))=false:=by rw[g.g.pl];rfl
  have EA:(!t.led&& !es.isEmpty)=false:=by rw[g.led,hb];rfl
  show wpAny _ _ (if(!t.plain&&decide (es.size > 1))=true then _ else _) _ _ _
  rw[wm,ax cb]
  refine aC ?_
  show wpAny _ _ (if(!t.led&& !es.isEmpty)=true then _ else _) _ _ _
  rw[EA,ax cb]
  refine aR ?_
  rw[hs hb,zi6 g.g.AE (by rw[g.g.sz];exact hi)]
  have hw:hU w a es ep=es:=by unfold hU;rw[ax (by rw[hb];exact cb)]
  have:=h (jc t (i+1)) (λ_=>rfl)
  rw[hw]at this
  refine aR ?_
  by_cases bq:i<es.size
  ·have hp:i<t.place.size:=by rw[g.g.sz];exact bq
   rw[fX bq]at this ⊢
   rw[fX hp]
   have e:jc t (i+1)=t.place[i]+1:=by
    show t.place.getD i 0+1=_
    rw[fk,fX hp]
    rfl
   rw[e]at this
   exact this
  ·rw[ON (by omega)]at this ⊢
   exact this
end
open PySem PySem.Spec
noncomputable def um(a:ah)(slot i n ep:Nat):Obj:={cls:=.type "set_iterator",data:=.fields #[.int slot 0,.int i 0,.ref a,.int n 0,.int ep 0]}
theorem Ur:Slot "set_iterator" "__iter__" "set_iterator.__iter__":=Wm (n:="__iter__") (by rw[typeLookup_type,OU];kernel_rfl) (by decide+kernel) (by decide+kernel) (by decide+kernel) (by decide+kernel) (by decide+kernel)
section
variable {es:Array (Int×af)} {t:SetTable}
theorem ahs{Q:af->ag->Prop}(ho:s.heap.get? a=some o)(g:SO w o es ep t ks)
  (hQ:Q (.ref s.heap.objs.size) {s with heap:=s.heap.push (um a 0 0 es.size ep)}):wpAny (model prog w) A (pyIter (.ref a)) Q E s:=by
 have hT:s.TypeIs (.ref a) "set":=⟨o,ho,g.ex.1⟩
 refine wpAny_pyIter_slot hT F.slot_set_iter (vb F.slot_set_iter hT zeM ?_ (F.args_set_iter_1 _))
 unfold Builtin.«frozenset.__iter__»
 refine aC (sM (show Builtin.Frozenset.slot0 "__iter__" ⟨[.ref a],[]⟩=pure a from rfl) ?_)
 unfold Builtin.Frozenset.sizeOf
 refine aC (aC (wpAny_setEntries_of ho g.dt g.g.fits (aR ?_)))
 unfold setDrawn
 refine aC (aC (kg ho g.dt g.g.fits ?_))
 dsimp only
 refine aC (uz ?_)
 have wm:(!t.plain&&decide (es.size > 1))=false:=by rw[g.g.pl];rfl
 refine aR ?_
 show wpAny _ _ (if(!gf w&&(!t.plain&&decide (es.size > 1)))=true then _ else _) _ _ _
 rw[wm,Bool.and_false,ax cb]
 refine aC (aR ?_)
 refine aC (wpAny_setEpoch_of ho g.dt g.g.fits ?_)
 refine aC (Ci (aR ⟨_,rfl,"set_iterator",_,⟨_,eR _ rfl,rfl⟩,uC.lookup,?_⟩))
 exact hQ
theorem zf8{it:Nat}{e:Int×af}{Q:ae af->ag->Prop}(hit:s.heap.get? it=some (um a slot i es.size ep))(ho:s.heap.get? a=some o)(dc:a≠it)(g:SO w o es ep t ks)(hs:gf w=false->slot=jc t i)(hx:(hU w a es ep)[i]?=some e)
  (hQ:∀h' AR,(gf w=false->AR=jc t (i+1))->h'.get? it=some (um a AR (i+1) es.size ep)->Heap.SameBut it s.heap h'->Q (some e.2) {s with heap:=h'}):wpAny (model prog w) A (pyNext (.ref it)) Q E s:=by
 have hT:s.TypeIs (.ref it) "set_iterator":=⟨_,hit,rfl⟩
 have hi:i<=es.size:=by
  have:=(Array.getElem?_eq_some_iff.mp hx).1
  rw[A6]at this
  omega
 unfold pyNext
 refine aC (wpAny_attempt (wpAny_callSpecial?_slot (name:=Str.ofString "__next__") hT uC (vb uC hT Uy ?_ (Uu _))))
 unfold Builtin.«set_iterator.__next__»
 refine aC (sM (show slotArgs "__next__" 0 ⟨[.ref it],[]⟩=pure (.ref it,[])from rfl) ?_)
 refine aC (wpAny_fieldsOf hit rfl ?_)
 dsimp only
 refine aC (wpAny_setEntries_of ho g.dt g.g.fits ?_)
 rw[ax (by simp)]
 refine aC ?_
 show wpAny _ _ (setNext a (slot:Int).toNat (i:Int).toNat (ep:Int).toNat) _ _ _
 rw[sr,sr,sr]
 refine UD ho g hi hs λnx lj=>?_
 rw[hx]
 dsimp only[Option.map]
 refine aC (wpAny_setField_rec hit (by simp) λh1 e1 mX=>?_)
 refine aC (wpAny_setField_rec (s:={s with heap:=h1}) e1 (by simp) λh2 e2 uh=>?_)
 refine aR ⟨_,rfl,aR (hQ h2 nx lj ?_ (mX.trans uh))⟩
 rw[e2]
 rfl
theorem ahy{α:Type}{Q:α->ag->Prop}(hh:A.handled=none)(k:∀h' x,(∀b u,s.heap.get? b=some u->h'.get? b=some u)->Shared.TypeIs {s with heap:=h'} (.ref x) "StopIteration"->E (.ref x) {s with heap:=h'}):
  wpAny (model prog w) A (do raiseNew (<-newExc (.type "StopIteration") [])) Q E s:=by
 unfold newExc newTuple
 have adi:firstArgMember (.type "StopIteration") []=(pure Value.none:Sem af):=rfl
 rw[adi]
 exact aC (aC (Ci (aC (aR (Ci (wpAny_raiseNew_none hh (k _ _ (λb u e=>cL _ (cL _ e)) ⟨_,eR _ rfl,rfl⟩)) (by size_fits)))) (by size_fits)))
theorem zg8{it:Nat}{Q:ae af->ag->Prop}(hh:A.handled=none)(hit:s.heap.get? it=some (um a slot es.size es.size ep))(ho:s.heap.get? a=some o)(g:SO w o es ep t ks)(hs:gf w=false->slot=jc t es.size)
  (hQ:∀h',(∀b u,b≠it->s.heap.get? b=some u->h'.get? b=some u)->Q none {s with heap:=h'}):
  wpAny (model prog w) A (pyNext (.ref it)) Q E s:=by
 have hT:s.TypeIs (.ref it) "set_iterator":=⟨_,hit,rfl⟩
 have hn:(hU w a es ep)[es.size]?=none:=ON (u6 (A6 w a es ep))
 have body:∀(P:Fin->ag->Prop) (E':af->ag->Prop),(∀h' x,(∀b u,b≠it->s.heap.get? b=some u->h'.get? b=some u)->Shared.TypeIs {s with heap:=h'} (.ref x) "StopIteration"->E' (.ref x) {s with heap:=h'})->
   wpAny (model prog w) A.in1 (Builtin.«set_iterator.__next__» ⟨[.ref it],[]⟩) P E' s:=λP E' k=>by
  unfold Builtin.«set_iterator.__next__»
  refine aC (sM (show slotArgs "__next__" 0 ⟨[.ref it],[]⟩=pure (.ref it,[])from rfl) (aC (wpAny_fieldsOf hit rfl (aC (wpAny_setEntries_of ho g.dt g.g.fits ?_)))))
  rw[ax (by simp)]
  refine aC ?_
  show wpAny _ _ (setNext a (slot:Int).toNat (es.size:Int).toNat (ep:Int).toNat) _ _ _
  rw[sr,sr,sr]
  refine UD ho g (bu _) hs λnx _=>?_
  rw[hn]
  exact aC (wpAny_setField_rec hit (by simp) λh1 _ sb=>ahy (s:={s with heap:=h1}) hh λh' x kp tx=>k h' x (λb u nb e=>kp b u ((sb.2 b nb).trans e)) tx)
 unfold pyNext
 exact aC (wpAny_attempt (wpAny_callSpecial?_slot (name:=Str.ofString "__next__") hT uC (vb uC hT Uy (body _ _ λh' x kp tx=>aC (vc (b:=true) tx isSubtype_stop (aR (hQ h' kp)))) (Uu _))))
end
open PySem PySem.Spec PyProof.Rows
theorem zfZ:entryFor table "set_iterator.__iter__"=some Builtin.«dict_keyiterator.__iter__»:=entryFor_alias (id':="dict_keyiterator.__iter__") (by kernel_rfl) rfl (by decide+kernel) (by kernel_rfl)
theorem zg7(a:af):argsOk "set_iterator.__iter__" ⟨[a],[]⟩:=by unfold argsOk;kernel_rfl
theorem acp:typeLookup (.type "set") "__len__"=pure (some (.builtin "set.__len__")):=by rw[typeLookup_type,OU];kernel_rfl
section
variable {es:Array (Int×af)} {t:SetTable}
theorem ahm(hh:A.handled=none)(I:ah)(dc:a≠I)(g:SO w o es ep t ks):
  Walks prog w A I [I,a] [I] es.size (λi v=>∃e,(hU w a es ep)[i]?=some e/\v=e.2) (λi h=>(∃slot,(gf w=false->slot=jc t i)/\h.get? I=some (um a slot i es.size ep))/\h.get? a=some o) where
 sub:=λb hb=>by simp at hb;simp[hb]
 frame:=λ_ _ _ st hk=>by
  obtain⟨⟨slot,h1,h2⟩,h3⟩:=st
  exact⟨⟨slot,h1,hk I (by simp) _ h2⟩,hk a (by simp) _ h3⟩
 item:=λi s Q E hi st hQ=>by
  obtain⟨⟨slot,h1,h2⟩,h3⟩:=st
  have zz:i< (hU w a es ep).size:=by rw[A6];exact hi
  have hx:(hU w a es ep)[i]?=some (hU w a es ep)[i]:=fX zz
  refine zf8 h2 h3 dc g h1 hx λh' AR e1 e2 sb=>?_
  exact hQ _ h' s.toks ⟨_,hx,rfl⟩ ⟨⟨AR,e1,e2⟩,(sb.2 a dc).trans h3⟩ λb o hb e=>(sb.2 b (λz=>hb (by simp[z]))).trans e
 done:=λs Q E st hQ=>by
  obtain⟨⟨slot,h1,h2⟩,h3⟩:=st
  exact zg8 hh h2 h3 g h1 λh' kp=>hQ h' s.toks λb u hb e=>kp b u (λz=>hb (by rw[z];exact List.mem_singleton_self _)) e
 self:=λ_ s _ _ st hQ=>by
  obtain⟨⟨slot,h1,h2⟩,h3⟩:=st
  have hT:s.TypeIs (.ref I) "set_iterator":=⟨_,h2,rfl⟩
  refine wpAny_pyIter_slot hT Ur (vb Ur hT zfZ ?_ (zg7 _))
  show wpAny _ _ (ret (.ref I)) _ _ s
  exact aR ⟨_,rfl,"set_iterator",_,hT,uC.lookup,hQ⟩
theorem ZI{r:ah}{Q:ai->ag->Prop}(hT:s.TypeIs (.ref r) "set")(h:Q false s):wpAny (model prog w) A (Builtin.List.listLengthHint (.ref r)) Q E s:=by
 have sub:isSubtype (.type "set") (.type "set")=pure true:=by rw[isSubtype_type];kernel_rfl
 delta Builtin.List.listLengthHint
 refine aC (wpAny_specialOf hT acp ?_)
 generalize QE:("set.__len__":String)=id0
 wp_delta
 rw[show splitId id0=some ("set","__len__")from by subst QE;decide+kernel]
 subst QE
 exact aC (vc (T:="set") (b:=true) hT sub (wpAny_ite_split (λz=>absurd z (by decide)) λ_=>wpAny_ite_split (λ_=>aC (wpAny_typeOf hT (aR h))) λz=>absurd (by decide+kernel) z))
theorem ab6(g:SO w o es ep t ks):W.KdlSrc prog w "set" a a es.size (λi v=>∃e,(hU w a es ep)[i]?=some e/\v=e.2) (λh=>h.get? a=some o) where
 type:=λ_ hm=>⟨o,hm,g.ex.1⟩
 there:=λ_ hm=>⟨cc hm,cc hm⟩
 keep:=λ_ _ hm hk=>hk a (.inl rfl) o hm
 notList:=by decide
 notTuple:=by decide
 hint:=λ_ _ _ _ hm hq=>ZI ⟨o,hm,g.ex.1⟩ hq
 iter:=λ_ s hh hm=>⟨um a 0 0 es.size ep,_,(λ_ _ hq=>ahs hm g hq),ahm hh _ (cU (cc hm)) g,⟨⟨0,λ_=>rfl,eR _ rfl⟩,cL _ hm⟩⟩
end
open PySem PySem.Spec PyProof.Rows
theorem WT:∀(l:aa af) (m:aa (Int×af)),l.length=m.length->(∀(j:Nat) (v:af),l[j]?=some v->∃e,m[j]?=some e/\v=e.2)->(∀e∈m,∃k tk,e=(hashInt k,Value.int k tk))->IntsAre l (m.map eY)
 | [],[],_,_,_=>.nil
 | [],_::_,h,_,_=>by simp at h
 |_::_,[],h,_,_=>by simp at h
 |v::l,e::m,h,h1,h2=>by
  obtain⟨e',h3,h4⟩:=h1 0 v rfl
  have he:e=e':=by simpa using h3
  subst he
  obtain⟨k,tk,rfl⟩:=h2 e bA
  subst h4
  exact .cons k tk (WT l m (by simpa using h) (λj v hv=>by simpa using h1 (j+1) v (by simpa using hv)) λe he=>h2 e (cE _ he))
section
variable {es:Array (Int×af)} {t:SetTable}
theorem zgV{R:Result->ag->Prop}(hh:A.handled=none)(ho:s.heap.get? a=some o)(g:SO w o es ep t ks)(hn:es.size<=sizeLine)
  (h:∀h' tk acc c,(∀b u,b≠s.heap.objs.size->(s.heap.push (seqObj "list" #[] 0)).get? b=some u->h'.get? b=some u)->h'.get? s.heap.objs.size=some ⟨.type "list",none,.seq acc c,#[]⟩->PySem.ItemsOf (λi v=>∃e,(hU w a es ep)[i]?=some e/\v=e.2) acc es.size->R (.ok (.ret (.ref s.heap.objs.size))) {s with heap:=h',toks:=tk}):
  codeAny (model prog w) A (.builtin "proto.collect" ⟨[.ref a],[]⟩) R s:=by
 have pl:plainId "list.__iadd__"=true:=by decide+kernel
 have bq:=cc ho
 have jQ:(s.heap.push (seqObj "list" #[] 0)).get? a=some o:=cL _ ho
 refine u_ entry_proto_collect' (show wpAny _ _ (newList [] >>= _) _ _ s from aC (vd (aR ⟨sI pl _,u_ entry_list_iadd' ?_⟩)))
 rw[Around.under_plainId pl]
 exact W.kdl_extend (R:=R) (s:={s with heap:=s.heap.push (seqObj "list" #[] 0)}) (ab6 g) hh jQ s.heap.objs.size (oT bq) (oT bq) (.ref s.heap.objs.size) 0 (eR _ rfl) (λh' tk acc c k e it=>h h' tk acc c k e it) hn
theorem zhL{Q:aa af->ag->Prop}(hh:A.handled=none)(ho:s.heap.get? a=some o)(g:SO w o es ep t ks)(hn:es.size<=sizeLine)
  (h:∀h' tk vs,IntsAre vs ((hU w a es ep).toList.map eY)->(∀b o,s.heap.get? b=some o->h'.get? b=some o)->s.heap.objs.size<h'.objs.size->Q vs {s with heap:=h',toks:=tk}):
  wpAny (model prog w) A (collect (.ref a)) Q E s:=by
 refine(show wpAny _ _ (runValue _ >>= _) _ _ s from aC (wpAny_runValue (zgV hh ho g hn λh' tk O6 c' k' e' wZ=>?_)))
 refine(show wpAny _ _ (load s.heap.objs.size >>= _) _ _ _ from aC (wpAny_load e' (show wpAny _ _ (pure O6.toList) _ _ _ from ?_)))
 have hw:=MD w a es ep
 refine aR (h h' tk O6.toList (WT _ _ ?_ (λj v hv=>?_) λe he=>g.el e (hw.mem_iff.mp he)) (λb ob e=>k' b ob (cU (cc e)) (cL _ e)) (cc e'))
 ·rw[gT,gT,A6]
  exact wZ.1
 ·obtain⟨x,h1,h2⟩:=wZ.2 j v (by rw[<-sq];exact hv)
  exact⟨x,by rw[sq];exact h1,h2⟩
theorem afl{Q:af->ag->Prop}(hh:A.handled=none)(hG:GS w s.heap a ks)(Qj:ks.length<64)
  (h:∀(p:ah) (h':aj) (tk n:Nat) (out:aa af) (zs:aa Int),s.heap.get? p=none->IntsAre out zs->zs.Perm ks->zs.Pairwise (·<=·)->(∀b o,s.heap.get? b=some o->h'.get? b=some o)->h'.get? p=some {cls:=.type "list",data:=.seq out.toArray n}->s.heap.objs.size<=p->Q (.ref p) {s with heap:=h',toks:=tk}):
  wpAny (model prog w) A (call (.builtin "sorted") [.ref a]) Q E s:=by
 obtain⟨o,es,ep,t,ho,g⟩:=hG.so
 have hsz:=GS.len (h:=s.heap) (a:=a) g.pm
 refine Calls.call_function_entry kind_sorted plain_sorted entry_sorted (args_sorted1 _) (show wpAny _ _ (checkCount _ _ _ _ >>= _) _ _ _ from aC (aR (aC (zhL hh ho g (by rw[a7];omega) λh1 tk vs hI k1 ZV=>?_))))
 have jv:((hU w a es ep).toList.map eY).Perm ks:=((MD w a es ep).map eY).trans g.pm
 have hvl:vs.length<64:=by
  rw[IntsAre.length hI,jv.length_eq]
  exact Qj
 refine aC (vd (hsz:=by rw[a7];omega) ?_)
 have wJ:(h1.push (seqObj "list" vs.toArray 0)).get? h1.objs.size=some (seqObj "list" vs.toArray 0):=eR _ rfl
 have tH:s.heap.objs.size<=h1.objs.size:=lZ ZV
 show wpAny _ _ _ _ _ {s with heap:=h1.push (seqObj "list" vs.toArray 0),toks:=tk}
 refine aC (oU (vb slot_list_sort ⟨_,wJ,rfl⟩ entry_list_sort (list_sort_tree wJ hI hvl λout pK a1 a2 a3=>⟨_,rfl,?_⟩) (args_list_sort _)))
 obtain⟨n,hn⟩:=sortedHeap_at (out:=out) wJ
 refine aR ⟨_,rfl,h h1.objs.size _ tk n out.toList pK ?_ a1 (a2.trans jv) a3 (λb ob e=>?_) ?_ tH⟩
 ·cases q:s.heap.get? h1.objs.size with
  |none=>rfl
  |some x=>exact absurd (cc q) (Nat.not_lt.mpr tH)
 ·have hb:=cc e
  have fm:b<h1.objs.size:=eQ hb tH
  have i3:b< (h1.push (seqObj "list" vs.toArray 0)).objs.size:=by rw[size_push'];exact yK fm
  exact(sortedHeap_old (out:=out) (vs:=vs) (cU fm) i3).trans (cL _ (k1 b ob e))
 ·exact hn
end
end Sx
namespace L2
open PySem PySem.Spec PyProof.Rows
noncomputable abbrev jP(w:World)(a:ah)(ks:aa Int):HO:=.ext λh=>Sx.GS w h a ks
theorem Qi{w':World}(g:Sx.GS w h a ks):c8 P w' H h a (jP w a ks):=by
 obtain⟨o,es,ep,t,e,_⟩:=id g
 exact⟨g,⟨o,e⟩,λ_ _ g k=>g.keep k⟩
theorem RU:∀{kvs:aa (Key×V)} {vs:aa (Key×af)},KV kvs vs->∀{js:aa Int},kvs.map (·.1)=js.map Sum.inl->vs.length=js.length/\∀(i:Nat) (k:Int),js[i]?=some k->∃v,vs[i]?=some (Sum.inl k,v)
 |_,_,.nil,[],_=>⟨rfl,λi k h=>by simp at h⟩
 |_,_,.nil,_::_,h=>by simp at h
 |_,_,.cons _ _,[],h=>by simp at h
 |p::_,q::_,.cons r t,j::js,h=>by
  have h':=h
  rw[dO,dO]at h'
  injection h' with h1 h2
  obtain⟨l,g⟩:=RU t h2
  refine⟨by simpa using l,λi k hk=>?_⟩
  cases i with
  |zero=>
   have e:j=k:=by simpa using hk
   subst e
   refine⟨q.2,?_⟩
   have:q.1=Sum.inl j:=r.1.symm.trans h1
   simp[<-this]
  |succ i=>simpa using g i k (by simpa using hk)
section
theorem XU(ok:cG P w H h)(e:H a=some (.dK kvs))(hk:kvs.map (·.1)=js.map Sum.inl):Sx.yR h a js/\(a==sysModules)=false:=by
 obtain⟨z,hd,vs,rel,o,es,ep,ho,hc,we,wt,hp,hn⟩:=qd ok e
 obtain⟨hl,hg⟩:=RU rel hk
 refine⟨⟨o,es,ep,ho,hc,we,?_,λi en k he hj=>?_⟩,hd⟩
 ·have:=hp.length
  rw[gT]at this
  omega
 ·obtain⟨v,hv⟩:=hg i k hj
  obtain⟨h1,_⟩:=hp.get? (e:=en) (by rw[sq];exact he) hv
  obtain⟨k',h2,h3⟩:=wt en (Array.mem_of_getElem? he)
  have:k'=Sum.inl k:=(ee P w).inj _ _ _ h2 h1
  subst this
  have fR:se (Sum.inl k) en.key=true:=h1
  rcases lP fR with⟨i',tk,e1,e2⟩ | ⟨x,tk,e1,_⟩
  ·have:k=i':=qh e1
   subst this
   exact⟨tk,e2,h3⟩
  ·cases e1
theorem UU:jf X (.type "set") (λxs H Q=>∃(a:ah) (kvs:aa (Key×V)) (js:aa Int),xs= [.ref a]/\H a=some (.dK kvs)/\kvs.map (·.1)=js.map Sum.inl/\js.Nodup/\js.length<=30/\∀p,H p=none->Q (.ref p) (upd H p (jP X.w p js))):=by
 intro pins s σ H xs us Q I r h
 obtain⟨a,kvs,js,rfl,ha,hk,hn,hl,q⟩:=h
 obtain⟨u,rfl,rx⟩:=jg r
 cases rx
 obtain⟨hD,hS⟩:=XU I.aI ha hk
 exact Sx.XE hD hS hn hl λh' g kp=>⟨.ref s.heap.objs.size,_,I.laid (t':=s.toks) kp (bu _) (Qi g),rfl,q _ (I.aI.fresh (bu _))⟩
theorem DQ{w':World}(ok:cG P w' H h)(e:H a=some (jP w a ks)):Sx.GS w h a ks:=(show c8 P w' H h a (jP w a ks)from ok a _ e).1
theorem adD:d7 X (binaryOp .BitOr) (λx y H Q=>∃(a b:ah) (ks js:aa Int),x= .ref a/\y= .ref b/\a≠b/\H a=some (jP X.w a ks)/\H b=some (jP X.w b js)/\ks.length+js.length<=30/\∀p,H p=none->Q (.ref p) (upd H p (jP X.w p (Sx.dF ks js)))):=by
 intro pins s σ H x y v u Q I rx ry h
 obtain⟨a,b,ks,js,rfl,rfl,iI,ha,hb,hl,q⟩:=h
 cases rx
 cases ry
 exact Sx.ahu iI (DQ I.aI ha) (DQ I.aI hb) hl λh' g kp=>⟨.ref s.heap.objs.size,_,I.laid (t':=s.toks) kp (bu _) (Qi g),rfl,q _ (I.aI.fresh (bu _))⟩
theorem Va:∀{out:aa af} {zs:aa Int},IntsAre out zs->Vals (zs.map V.int) out
 |_,_,.nil=>.nil
 |_,_,.cons n t r=>.cons ⟨t,rfl⟩ (Va r)
theorem zgY(hc:X.calm=true):jf X (.builtin "sorted") (λxs H Q=>∃(a:ah) (ks:aa Int),xs= [.ref a]/\H a=some (jP X.w a ks)/\ks.length<64/\∀p (zs:aa Int),zs.Perm ks->zs.Pairwise (·<=·)->H p=none->Q (.ref p) (upd H p (.lst (zs.map V.int)))):=by
 intro pins s σ H xs us Q I r h
 obtain⟨a,ks,rfl,ha,hl,q⟩:=h
 obtain⟨u,rfl,rx⟩:=jg r
 cases rx
 refine Sx.afl (I.ok.hd hc) (DQ I.aI ha) hl λp h' tk n out zs hp hI pm pw kp e tH=>?_
 have hz:(zs.map V.int).length<=sizeLine:=by rw[bH,pm.length_eq,a7];omega
 exact⟨.ref p,_,I.laid (t':=tk) kp tH (show c8 X.prog X.w _ h' _ (.lst (zs.map V.int))from⟨hz,out,n,Va hI,e⟩),rfl,q p zs pm pw (I.aI.fresh tH)⟩
end
open PySem PySem.Spec PyProof.Rows
noncomputable abbrev uw(v d:ah):HO:=.ext λh=>h.IsValuesView v d
theorem ahj{v d:ah}(g:h.IsValuesView v d):c8 P w H h v (uw v d):=by
 obtain⟨o,e,c⟩:=id g
 exact⟨g,⟨o,e⟩,λ_ _ ⟨o,e,c⟩ k=>⟨o,k o e,c⟩⟩
noncomputable def eZ:aa Int->Int
 | []=>0
 |n::r=>n+eZ r
theorem Us(f:Nat->Int):∀n,preSum f (n+1)=f 0+preSum (λj=>f (j+1)) n
 |0=>by
  show 0+f 0=f 0+0
  omega
 |n+1=>by
  show preSum f (n+1)+f (n+1)=f 0+(preSum (λj=>f (j+1)) n+f (n+1))
  rw[Us f n]
  omega
theorem MA:∀ns:aa Int,preSum (λi=>ns.getD i 0) ns.length=eZ ns
 | []=>rfl
 |n::r=>by
  rw[d5,Us]
  show n+preSum (λj=>(n::r).getD (j+1) 0) r.length=n+eZ r
  rw[<-MA r]
  rfl
theorem WM:∀{kvs:aa (Key×V)} {vs:aa (Key×af)},KV kvs vs->∀{ns:aa Int},kvs.map (·.2)=ns.map V.int->vs.length=ns.length/\∀(i:Nat) (k:Key) (v:af),vs[i]?=some (k,v)->∃t,v= .int (ns.getD i 0) t
 |_,_,.nil,[],_=>⟨rfl,λi k v h=>by simp at h⟩
 |_,_,.nil,_::_,h=>by simp at h
 |_,_,.cons _ _,[],h=>by simp at h
 |p::_,q::_,.cons r t,n::ns,h=>by
  have h':=h
  rw[dO,dO]at h'
  injection h' with h1 h2
  obtain⟨l,g⟩:=WM t h2
  refine⟨by simpa using l,λi k v hv=>?_⟩
  cases i with
  |zero=>
   have e:q=(k,v):=by simpa using hv
   have r2:RelV p.2 q.2:=r.2
   rw[h1,e]at r2
   obtain⟨t',ht⟩:=r2
   exact⟨t',ht⟩
  |succ i=>exact g i k v (by simpa using hv)
section
noncomputable def aek:V->aa V->Hp->VK->Prop:=λx vs H Q=>∃(d:ah) (kvs:aa (Key×V)),x= .ref d/\vs= []/\H d=some (.dK kvs)/\∀p,H p=none->Q (.ref p) (upd H p (uw p d))
theorem zj1:vn X "dict.values" aek:=by
 intro pins s σ H x vs v us Q I rx rv h
 obtain⟨d,kvs,rfl,rfl,hH,q⟩:=h
 cases rx
 cases rv
 obtain⟨z,hd,ws,rel,dd⟩:=qd I.aI hH
 refine yN F.slot_dict_values dd.typeIs F.entry_dict_values (F.args_dict_values_1 _) (meets_dict_values (ee X.prog X.w) d hd) ⟨⟨ws,dd⟩,?_⟩
 exact⟨.ref s.heap.objs.size,_,I.laid (t':=s.toks) (λ_ _ e=>cL _ e) (bu _) (ahj ⟨_,eR _ rfl,rfl,rfl⟩),rfl,q _ (I.aI.fresh (bu _))⟩
theorem zk0(hc:X.calm=true):jf X (.builtin "sum") (λxs H Q=>∃(v d:ah) (kvs:aa (Key×V)) (ns:aa Int),xs= [.ref v]/\H v=some (uw v d)/\H d=some (.dK kvs)/\kvs.map (·.2)=ns.map V.int/\Q (.int (eZ ns)) H):=by
 intro pins s σ H xs us Q I r h
 obtain⟨v,d,kvs,ns,rfl,hv,hd,hn,q⟩:=h
 obtain⟨u,rfl,rx⟩:=jg r
 cases rx
 obtain⟨z,hS,ws,rel,o,es,ep,ho,df,we,wt,hp,dg⟩:=qd I.aI hd
 have E7:s.heap.IsValuesView v d:=(show c8 X.prog X.w H s.heap v (uw v d)from I.aI v _ hv).1
 have hm:s.heap.DictAt (ee X.prog X.w) d ws ep:=⟨o,es,ho,df,we,wt,hp,dg⟩
 obtain⟨hl,hg⟩:=WM rel hn
 refine call_sum_walkAnyS (wpAny_pyIter_values E7 hm ?_)
 refine⟨s.heap.objs.size,[s.heap.objs.size,d],[s.heap.objs.size],_,ws.length,_,_,(λi=>ns.getD i 0),rfl,(Walks.dictValues (A:=X.A.in1) (knd:=ee X.prog X.w) (show X.A.in1.handled=none from I.ok.hd hc) s.heap.objs.size d (cU hm.lt_size) ws ep).toS,⟨⟨_,eR _ rfl,rfl,rfl⟩,hm.push _⟩,λb hb=>?_,λi x hx=>?_,λs' t' wF=>?_⟩
 ·rw[l_]
  rcases hZ.mp hb with e|hb
  ·rw[e]
   exact oS _
  ·rw[List.mem_singleton.mp hb]
   exact yK hm.lt_size
 ·obtain⟨k,hk⟩:=hx
  exact hg i k x hk
 ·rw[hl,MA]
  rw[Moved.eq_with wF]
  exact⟨.int (eZ ns),H,I.kept (t':=s'.toks) λb u e=>wF.heap b u (λhb=>absurd (cc e) (by rw[List.mem_singleton.mp hb];exact kN _)) (cL _ e),⟨t',rfl⟩,q⟩
end
open PySem PySem.Spec PyProof.Rows
noncomputable def jB(lt:af->af->ai):ae af->aa af->ae af
 |o,[]=>o
 |none,v::r=>jB lt (some v) r
 |some b,v::r=>jB lt (some (if lt v b=true then v else b)) r
noncomputable def SV:ae af->Array af
 |none=>#[]
 |some v=>#[v,v]
noncomputable abbrev Kept(h h':aj):Prop:=∀b o,h.get? b=some o->h'.get? b=some o
noncomputable abbrev bestAt(h:aj)(S:ah)(old:ae af):Prop:=∃n,h.get? S=some ⟨.type "list",none,.seq (SV old) n,#[]⟩
theorem VF(v:af):(SV (some v)).size<=sizeLine:=by
 rw[a7]
 show 2<=16777216
 decide
theorem yg:(toString "min"++toString ".loop")=("min.loop":String):=by decide
section
variable {h0:aj} {l I S:ah} {lt:af->af->ai} {d:af} {kw:aa (Str×af)}
theorem RD{args:Args}(h:wpAny (model prog w) A.in1 (Builtin.«min.loop» args) (λfin s'=>match fin with| .done f=>R (.ok f) s'| .again c'=>c'.quiet=true/\codeAny (model prog w) A c' R s') (λe s'=>R (.error e) s') s):
  codeAny (model prog w) A (.builtin "min.loop" args) R s:=
 u_ F.entry_min_loop (by rwa [Around.under_plainId u7])
theorem So(hh:A.handled=none)(hl:h0.IsList l vs.toArray)(hI:h0.objs.size<=I)(hS:h0.objs.size<=S)(DV:I≠S)
  (hc:∀v∈vs,∀u∈vs,∀(s':ag) (Q E:af->ag->Prop),Kept h0 s'.heap->Q (.bool (lt v u)) s'->wpAny (model prog w) A.in1 (richCompare .Lt v u) Q E s'):
  ∀(rest pre:aa af) (old:ae af) (s:ag),vs=pre++rest->(∀v,old=some v->v∈vs)->s.heap.IsListIter I l pre.length->Kept h0 s.heap->bestAt s.heap S old->(jB lt old rest=none->∃k tl,kw=(k,d)::tl)->
   (∀h' tk,Kept h0 h'->R (.ok (.ret ((jB lt old rest).getD d))) {s with heap:=h',toks:=tk})->
   codeAny (model prog w) A (.builtin "min.loop" ⟨[.ref I,.none,.ref S],kw⟩) R s:=by
 have nI:∀{b:ah} {o:Obj},h0.get? b=some o->b≠I:=λe=>cU (eQ (cc e) hI)
 have nS:∀{b:ah} {o:Obj},h0.get? b=some o->S≠b:=λe=>oT (eQ (cc e) hS)
 intro rest
 induction rest with
 |nil=>
  intro pre old s hv ho it kp ⟨n,hb⟩ qD r
  refine RD (show wpAny _ A.in1 (seqItems? _ >>= _) _ _ _ from aC (wpAny_seqItems hb rfl (show wpAny _ A.in1 (tryCatch (pyNext _) _ >>= _) _ _ _ from aC (wpAny_tryCatch ?_))))
  refine wpAny_pyNext_list_end hh it (hl.at λo e=>kp l o e) (by rw[hv];simp) λh' x=>?_
  have tR:Kept h0 h':=λb o e=>x b o (nI e) (kp b o e)
  have cZ:=x S _ (gH DV) hb
  cases old with
  |none=>
   obtain⟨k,tl,rfl⟩:=qD rfl
   exact aC (wpAny_rule (aR (r h' s.toks tR)))
  |some v=>
   refine(show wpAny _ A.in1 (updateSeq S _ >>= _) _ _ _ from aC (wpAny_updateSeq (hz:=VF v) cZ rfl (aC (wpAny_letGo (aR ?_)))))
   exact r _ s.toks λb o e=>(Cf _ _ (nS e)).trans (tR b o e)
 |cons v rest ih=>
  intro pre old s hv ho it kp ⟨n,hb⟩ qD r
  have mv:v∈vs:=by rw[hv];simp
  refine RD (show wpAny _ A.in1 (seqItems? _ >>= _) _ _ _ from aC (wpAny_seqItems hb rfl (show wpAny _ A.in1 (tryCatch (pyNext _) _ >>= _) _ _ _ from aC (wpAny_tryCatch ?_))))
  refine wpAny_pyNext_list_item it (hl.at λo e=>kp l o e) (x:=v) (by rw[hv];simp) λh' wZ x=>?_
  have tR:Kept h0 h':=λb o e=>x.extBut b o (nI e) (kp b o e)
  have cZ:=x.extBut S _ (gH DV) hb
  have qT:vs=(pre++ [v])++rest:=by rw[hv];simp
  have hlen:(pre++ [v]).length=pre.length+1:=by simp
  have wr:∀f:Array af->Array af,Kept h0 (h'.update S (Obj.mapSeq f))/\(h'.update S (Obj.mapSeq f)).IsListIter I l (pre++ [v]).length:=λf=>
   ⟨λb o e=>(Cf _ _ (nS e)).trans (tR b o e),by rw[hlen];exact wZ.at λo e=>(Cf _ _ (gH DV)).trans e⟩
  cases old with
  |none=>
   refine(show wpAny _ A.in1 (updateSeq S _ >>= _) _ _ _ from aC (wpAny_updateSeq cZ rfl ?_))
   rw[yg]
   exact aR ⟨sI u7 _,ih (pre++ [v]) (some v) _ qT (λu e=>by cases e;exact mv) (wr _).2 (wr _).1 ⟨_,OS _ cZ rfl⟩ qD r⟩
  |some b=>
   refine(show wpAny _ A.in1 (tryCatch (holding _ (richCompare .Lt v b >>= _)) _ >>= _) _ _ _ from aC (wpAny_tryCatch (oU (aC (hc v mv b (ho b rfl) _ _ _ tR ?_)))))
   refine aC (oU (nq (aC (wpAny_letGo (aR ?_)))))
   have e:∀k,lt v b=k->jB lt (some b) (v::rest)=jB lt (some (if k=true then v else b)) rest:=λk hk=>by rw[<-hk];rfl
   cases hk:lt v b with
   |true=>
    rw[e true hk,aA rfl]at r qD
    rw[aA rfl]
    refine aC (wpAny_updateSeq (hz:=VF b) cZ rfl (aC (wpAny_letGo ?_)))
    rw[yg]
    exact aR ⟨sI u7 _,ih (pre++ [v]) (some v) _ qT (λu e=>by cases e;exact mv) (wr _).2 (wr _).1 ⟨_,OS _ cZ rfl⟩ qD r⟩
   |false=>
    rw[e false hk,ax cb]at r qD
    rw[ax cb]
    refine aC (wpAny_letGo ?_)
    rw[yg]
    exact aR ⟨sI u7 _,ih (pre++ [v]) (some b) _ qT ho (by rw[hlen];exact wZ) tR ⟨_,cZ⟩ qD r⟩
theorem zla(a d:af):argsOk "min" ⟨[a],[(Str.ofString "default",d)]⟩:=by
 unfold argsOk
 kernel_rfl
theorem zk3{Q E:af->ag->Prop}(hh:A.handled=none)(hl:s.heap.IsList l vs.toArray)
  (hc:∀v∈vs,∀u∈vs,∀(s':ag) (Q E:af->ag->Prop),Kept s.heap s'.heap->Q (.bool (lt v u)) s'->wpAny (model prog w) A.in1 (richCompare .Lt v u) Q E s')
  (q:∀h' tk,Kept s.heap h'->Q ((jB lt none vs).getD d) {s with heap:=h',toks:=tk}):wpAny (model prog w) A (call (.builtin "min") [.ref l] [(Str.ofString "default",d)]) Q E s:=by
 refine kmb_tree F.kind_min F.plain_min F.entry_min (zla _ _) ?_
 refine(show wpAny _ A.in1 (Builtin.Builtins.bindParams "min" ["key","default"] 0 ⟨[],[(Str.ofString "default",d)]⟩ >>= _) _ _ s from aC (sM (a:=[none,some d]) rfl (aC (aR (aC (Cj hl (aC (vd ?_ (dD _)))))))))
 rw[yg]
 refine aR ⟨sI u7 _,So hh hl (bu _) ?_ ?_ hc vs [] none _ rfl (λ_ e=>by cases e) ⟨_,cL _ (eR _ rfl),rfl,rfl⟩ (λb o e=>cL _ (cL _ e)) ⟨_,eR _ rfl⟩ (λ_=>⟨_,_,rfl⟩) λh' tk k=>q h' tk k⟩
 ·rw[l_]
  exact kM _
 ·rw[l_]
  exact cU (oS _)
theorem MJ(lt:af->af->ai):∀(vs:aa af) (o:ae af),o≠none\/vs≠[]->∃v,jB lt o vs=some v
 | [],some v,_=>⟨v,rfl⟩
 | [],none,h=>by simp at h
 |v::r,none,_=>MJ lt r (some v) (.inl (by simp))
 |v::r,some b,_=>MJ lt r (some (if lt v b=true then v else b)) (.inl (by simp))
theorem zk2{Q E:af->ag->Prop}(hh:A.handled=none)(hl:s.heap.IsList l vs.toArray)(dc:vs≠[])
  (hc:∀v∈vs,∀u∈vs,∀(s':ag) (Q E:af->ag->Prop),Kept s.heap s'.heap->Q (.bool (lt v u)) s'->wpAny (model prog w) A.in1 (richCompare .Lt v u) Q E s')
  (q:∀v h' tk,jB lt none vs=some v->Kept s.heap h'->Q v {s with heap:=h',toks:=tk}):wpAny (model prog w) A (call (.builtin "min") [.ref l]) Q E s:=by
 obtain⟨v,hv⟩:=MJ lt vs none (.inr dc)
 refine kmb_tree F.kind_min F.plain_min F.entry_min (F.args_min1 _) ?_
 refine(show wpAny _ A.in1 (Builtin.Builtins.bindParams "min" ["key","default"] 0 ⟨[],[]⟩ >>= _) _ _ s from aC (sM (a:=[none,none]) rfl (aC (aR (aC (Cj hl (aC (vd ?_ (dD _)))))))))
 rw[yg]
 refine aR ⟨sI u7 _,So (d:=v) hh hl (bu _) ?_ ?_ hc vs [] none _ rfl (λ_ e=>by cases e) ⟨_,cL _ (eR _ rfl),rfl,rfl⟩ (λb o e=>cL _ (cL _ e)) ⟨_,eR _ rfl⟩ (λz=>by rw[hv]at z;cases z) λh' tk k=>?_⟩
 ·rw[l_]
  exact kM _
 ·rw[l_]
  exact cU (oS _)
 ·rw[hv]
  exact q v h' tk hv k
end
open PySem PySem.Spec PyProof.Rows
theorem WU:∀{its:aa af} {ns:aa Int},Vals (ns.map V.int) its->its.length=ns.length/\∀(i:Nat) (v:af),its[i]?=some v->∃t,v= .int (ns.getD i 0) t
 | [],[],_=>⟨rfl,λi v h=>by simp at h⟩
 |_::_,[],r=>by cases r
 | [],_::_,r=>by cases r
 |u::its,n::ns,r=>by
  cases r with
  |cons r1 r2=>
   obtain⟨l,g⟩:=WU r2
   refine⟨by simp[l],λi v h=>?_⟩
   cases i with
   |zero=>
    have e:u=v:=by simpa using h
    subst e
    obtain⟨t,ht⟩:=r1
    exact⟨t,ht⟩
   |succ i=>exact g i v (by simpa using h)
section
theorem OE:∀{its:aa af} {bs:aa ai},Vals (bs.map V.bl) its->its=bs.map Value.bool
 | [],[],_=>rfl
 |_::_,[],r=>by cases r
 | [],_::_,r=>by cases r
 |u::its,b::bs,r=>by
  cases r with
  |cons r1 r2=>
   have e1:u= .bool b:=r1
   rw[e1,OE r2]
   rfl
noncomputable def uW:af->ai
 | .bool b=>b
 |_=>false
theorem Ua{bs:aa ai}{y:af}(h:y∈(bs.map Value.bool).toArray):SeqAt.EqAt A s y (.bool true) (uW y):=by
 obtain⟨b,_,rfl⟩:∃b∈bs,Value.bool b=y:=by simpa using h
 have:=SeqAt.EqAt.bool_bool (A:=A) (s:=s) b true
 rw[show(b==true)=b by cases b<;>rfl]at this
 exact this
noncomputable def aec:V->aa V->Hp->VK->Prop:=λx vs H Q=>∃(l:ah) (bs:aa ai),x= .ref l/\vs= [.bl true]/\H l=some (.lst (bs.map V.bl))/\Q (.int (bs.countP id:Nat)) H
theorem zkX(bs:aa ai):(bs.map Value.bool).toArray.toList.countP uW=bs.countP id:=by
 show(bs.map Value.bool).countP uW=_
 rw[List.countP_map]
 rfl
theorem zj4:vm X "list.count" aec:=by
 intro pins s σ H x vs v us Q I rx rv h
 obtain⟨l,bs,rfl,rfl,hH,q⟩:=h
 cases rx
 obtain⟨u,rfl,ru⟩:=jg rv
 cases ru
 obtain⟨z,its,n,r,hl,e⟩:=I.w_ hH
 obtain rfl:=OE r
 refine call_meets F.slot_list_count ⟨_,e,rfl⟩ F.entry_list_count (F.args_list_count_2 _ _) (SeqAt.list_countAt l _ n none #[] (.bool true) uW) ⟨e,λy hy=>Ua hy,?_⟩
 rw[zkX]
 exact⟨.int _,H,I.tok _,⟨_,rfl⟩,q⟩
noncomputable def aed:V->aa V->Hp->VK->Prop:=λx vs H Q=>∃(l:ah) (bs:aa ai) (j:Nat),x= .ref l/\vs= [.bl true]/\H l=some (.lst (bs.map V.bl))/\bs[j]?=some true/\(∀i,i<j->bs[i]?=some false)/\Q (.int j) H
theorem zj3:vm X "list.index" aed:=by
 intro pins s σ H x vs v us Q I rx rv h
 obtain⟨l,bs,j,rfl,rfl,hH,hj,dh,q⟩:=h
 cases rx
 obtain⟨u,rfl,ru⟩:=jg rv
 cases ru
 obtain⟨z,its,n,r,hl,e⟩:=I.w_ hH
 obtain rfl:=OE r
 have qB:j<bs.length:=by
  rcases Nat.lt_or_ge j bs.length with h|h
  ·exact h
  ·rw[yE h]at hj
   cases hj
 have hz:(bs.map Value.bool).toArray.size=bs.length:=by simp
 have at_:∀(i:Nat) (hi:i< (bs.map Value.bool).toArray.size) (b:ai),bs[i]?=some b->uW (bs.map Value.bool).toArray[i]=b:=λi hi b hb=>by
  have k_:i<bs.length:=by omega
  rw[jF k_]at hb
  have:(bs.map Value.bool).toArray[i]=Value.bool bs[i]:=by simp
  rw[this]
  exact cq hb
 rw[bH,a7]at z
 refine call_meets F.slot_list_index ⟨_,e,rfl⟩ F.entry_list_index (F.args_list_index_2 _ _) (SeqAt.list_indexAt l _ n none #[] (.bool true) uW j (by omega) (by omega) (at_ j (by omega) true hj) (λi hi dH=>at_ i hi false (dh i dH))) ⟨e,λy hy=>Ua hy,?_⟩
 exact⟨.int _,H,I.tok _,⟨_,rfl⟩,q⟩
end
open PySem PySem.Spec PyProof.Rows
section
theorem MV(hc:X.calm=true):jf X (.builtin "sum") (λxs H Q=>∃(l:ah) (ns:aa Int),xs= [.ref l]/\aK X.K H l (ns.map V.int)/\Q (.int (eZ ns)) H):=by
 intro pins s σ H xs us Q I r h
 obtain⟨l,ns,rfl,hl,q⟩:=h
 obtain⟨u,rfl,rx⟩:=jg r
 cases rx
 obtain⟨its,rv,pl,_⟩:=I.list hl
 obtain⟨hlen,aaR⟩:=WU rv
 have eI:=pl.isList
 obtain⟨o,ho,_⟩:=id eI
 have QO:l<s.heap.objs.size:=cc ho
 refine call_sum_walkAnyS (Cj eI ?_)
 refine⟨s.heap.objs.size,_,_,_,its.toArray.size,_,_,(λi=>ns.getD i 0),rfl,(Walks.list (A:=X.A.in1) (show X.A.in1.handled=none from I.ok.hd hc) s.heap.objs.size l (cU QO) its.toArray).toS,⟨⟨_,eR _ rfl,rfl,rfl⟩,eI.at λo e=>cL _ e⟩,λb hb=>?_,λi x hx=>?_,λs' t' wF=>?_⟩
 ·rw[l_]
  rcases hZ.mp hb with e|hb
  ·rw[e]
   exact oS _
  ·rw[List.mem_singleton.mp hb]
   exact yK QO
 ·exact aaR i x (by simpa using hx)
 ·rw[eP,hlen,MA]
  rw[Moved.eq_with wF]
  exact⟨.int (eZ ns),H,I.kept (t':=s'.toks) λb u e=>wF.heap b u (λhb=>absurd (cc e) (by rw[List.mem_singleton.mp hb];exact kN _)) (cL _ e),⟨t',rfl⟩,q⟩
end
end L2
namespace Fb
open PySem L2
noncomputable def dj(e:Ent):aa Ent->aa Ent
 | []=>[]
 |x::r=>if x.lt e then x::dj e r else r
theorem Ent.xa(x:Ent):¬x.lt x:=by
 unfold Ent.lt klt
 omega
theorem BI(e:Ent):∀xs:aa Ent,dj e xs=xs.eraseIdx (fi e xs)
 | []=>rfl
 |x::r=>by
  unfold dj fi
  split
  ·rw[List.eraseIdx_cons_succ,BI e r]
  ·rfl
theorem U4{α β:Type}(f:α->β):∀(xs:aa α) (i:Nat),(xs.map f).eraseIdx i=(xs.eraseIdx i).map f
 | [],_=>rfl
 |x::r,0=>rfl
 |x::r,i+1=>by
  show f x::(r.map f).eraseIdx i=f x::(r.eraseIdx i).map f
  rw[U4 f r i]
theorem NQ(e:Ent)(xs:aa Ent):(dj e xs).Sublist xs:=by
 rw[BI]
 exact List.eraseIdx_sublist _ _
theorem M0:∀{xs:aa Ent},eN xs->e∈xs->xs[fi e xs]?=some e
 | [],_,h=>absurd h (by simp)
 |y::r,hs,h=>by
  obtain⟨h1,h2⟩:=List.pairwise_cons.mp hs
  unfold fi
  split
  ·rename_i hy
   rcases hZ.mp h with rfl|h
   ·exact absurd hy (Ent.xa _)
   ·rw[List.getElem?_cons_succ]
    exact M0 h2 h
  ·rename_i hy
   rcases hZ.mp h with rfl|h
   ·rfl
   ·exact absurd (h1 e h) hy
theorem ye{x:Ent}:∀{xs:aa Ent},eN xs->e∈xs->(x∈dj e xs↔x∈xs/\x≠e)
 | [],_,h=>absurd h (by simp)
 |y::r,hs,h=>by
  obtain⟨h1,h2⟩:=List.pairwise_cons.mp hs
  unfold dj
  split
  ·rename_i hy
   have nY:y≠e:=λz=>by
    rw[z]at hy
    exact Ent.xa _ hy
   have hr:e∈r:=by
    rcases hZ.mp h with z|z
    ·exact absurd z.symm nY
    ·exact z
   rw[hZ,ye h2 hr,hZ]
   constructor
   ·rintro(z| ⟨z1,z2⟩)
    ·exact⟨.inl z,by rw[z];exact nY⟩
    ·exact⟨.inr z1,z2⟩
   ·rintro⟨z|z,z2⟩
    ·exact .inl z
    ·exact .inr ⟨z,z2⟩
  ·rename_i hy
   have nY:y=e:=by
    rcases hZ.mp h with z|z
    ·exact z.symm
    ·exact absurd (h1 e z) hy
   subst nY
   constructor
   ·intro z
    exact⟨cE _ z,λq=>Ent.xa y (h1 y (by rw[q]at z;exact z))⟩
   ·rintro⟨z,z2⟩
    rcases hZ.mp z with q|q
    ·exact absurd q z2
    ·exact q
theorem NR(hs:eN xs)(h:e∈xs):(dj e xs).length+1=xs.length:=by
 have hp:=M0 hs h
 have hl:fi e xs<xs.length:=(List.getElem?_eq_some_iff.mp hp).1
 rw[BI,List.length_eraseIdx,aA hl]
 omega
theorem qa:∀{xs:aa Ent},(xs.map (·.num)).Nodup->∀{x y:Ent},x∈xs->y∈xs->x.num=y.num->x=y
 | [],_,_,_,h,_,_=>absurd h (by simp)
 |z::r,hn,x,y,hx,hy,e=>by
  have hn:(z.num::r.map (·.num)).Nodup:=hn
  obtain⟨h1,h2⟩:=List.nodup_cons.mp hn
  rcases hZ.mp hx with cA|cA
  ·rcases hZ.mp hy with gr|gr
   ·rw[cA,gr]
   ·exact absurd (u4.mpr ⟨y,gr,by rw[<-e,cA]⟩) h1
  ·rcases hZ.mp hy with gr|gr
   ·exact absurd (u4.mpr ⟨x,cA,by rw[e,gr]⟩) h1
   ·exact qa h2 cA gr e
noncomputable def Bk.out(B:Bk)(e:Ent):Bk:=B.set e.au (dj e (B.at e.au))
theorem iw(B:Bk)(b:ai)(xs:aa Ent):(B.set b xs).at b=xs:=by
 unfold Bk.set Bk.at
 cases b<;>rfl
theorem ir(B:Bk)(b:ai)(xs:aa Ent):(B.set b xs).at (!b)=B.at (!b):=by
 unfold Bk.set Bk.at
 cases b<;>rfl
theorem fG(B:Bk)(b:ai)(xs:aa Ent):(B.set b xs).aG=B.aG/\(B.set b xs).places=B.places/\(B.set b xs).aY=B.aY/\(B.set b xs).last=B.last/\(B.set b xs).bE=B.bE:=by
 unfold Bk.set
 cases b<;>exact⟨rfl,rfl,rfl,rfl,rfl⟩
theorem oE(B:Bk)(b:ai)(xs:aa Ent):(B.set b xs).aU.length+(B.set b xs).aV.length=xs.length+(B.at (!b)).length:=by
 unfold Bk.set Bk.at
 cases b
 ·show B.aU.length+xs.length=xs.length+B.aU.length
  omega
 ·rfl
theorem lS(B:Bk)(b:ai):(B.at b).length+(B.at (!b)).length=B.aU.length+B.aV.length:=by
 unfold Bk.at
 cases b
 ·show B.aV.length+B.aU.length=_
  omega
 ·rfl
theorem BD{b':ai}{x:Ent}(h:x∈(B.set b xs).at b'):(b'=b/\x∈xs)\/(b'= !b/\x∈B.at b'):=by
 by_cases hb:b'=b
 ·subst hb
  rw[iw]at h
  exact .inl ⟨rfl,h⟩
 ·have e:b'= !b:=ix hb
  subst e
  rw[ir]at h
  exact .inr ⟨rfl,h⟩
theorem pY(so:eN (B.at e.au))(he:e∈B.at e.au){x:Ent}(h:x∈(B.out e).at b):x∈B.at b/\(b=e.au->x≠e):=by
 rcases BD h with⟨hb,h'⟩ | ⟨hb,h'⟩
 ·subst hb
  obtain⟨h1,h2⟩:=(ye so he).mp h'
  exact⟨h1,λ_=>h2⟩
 ·refine⟨h',λz=>?_⟩
  rw[z]at hb
  revert hb
  cases e.au<;>simp
theorem rQ(ok:B.Ok)(he:e∈B.at e.au){x:Ent}(h:x∈(B.out e).at b):x.num≠e.num:=λz=>by
 obtain⟨h1,h2⟩:=pY (ok.so _) he h
 have hb:=yd (b:=b) ok b e.au h1 he z
 subst hb
 exact h2 rfl (qa (ok.nd _) h1 he z)
theorem Bk.Ok.sub(ok:B.Ok)(h:xs.Sublist (B.at b)):(B.set b xs).Ok:=by
 obtain⟨q1,q2,q3,q4,q5⟩:=fG B b xs
 have key:∀b' x,x∈(B.set b xs).at b'->x∈B.at b':=λb' x hx=>by
  rcases BD hx with⟨hb,cA⟩ | ⟨_,cA⟩
  ·subst hb
   exact h.subset cA
  ·exact cA
 refine⟨λb'=>?_,λb' x hx=>ok.sd b' x (key b' x hx),λb'=>?_,λx hx y hy=>ok.nx x (key true x hx) y (key false y hy),λb' x hx=>by rw[q1];exact ok.lt b' x (key b' x hx),λb' x hx=>by rw[q2];exact ok.pl b' x (key b' x hx),?_,by rw[q1];exact ok.cm⟩
 ·by_cases hb:b'=b
  ·subst hb
   rw[iw]
   exact(ok.so _).sublist h
  ·have e:b'= !b:=ix hb
   subst e
   rw[ir]
   exact ok.so _
 ·by_cases hb:b'=b
  ·subst hb
   rw[iw]
   exact(ok.nd _).sublist (h.map _)
  ·have e:b'= !b:=ix hb
   subst e
   rw[ir]
   exact ok.nd _
 ·rw[oE,q1]
  have h1:=h.length_le
  have h2:=lS B b
  have h3:=ok.ct
  omega
theorem Bk.Ok.out(ok:B.Ok)(e:Ent):(B.out e).Ok:=ok.sub (NQ e _)
noncomputable def uc(g:Ga)(B:Bk)(e:Ent)(kvs:aa (Key×V))(H:Hp):Hp:=upd (upd H (g.at e.au) (.lst ((refs (B.at e.au)).eraseIdx (fi e (B.at e.au))))) g.de (.dK (gS kvs (Sum.inl e.num)))
theorem aen(R:Rep c H g B)(ok:B.Ok)(he:e∈B.at e.au)(cw:H g.de=some (.dK kvs))(dg:(kvs.map (·.1)).Nodup)(hlen:kvs.length=B.aU.length+B.aV.length)
  (iN:∀b,∀e∈B.at b,bQ kvs (Sum.inl e.num)=some (.ref e.ea)) (gq:∀n v,bQ kvs (Sum.inl n)=some v->∃b,∃e∈B.at b,e.num=n):Rep c (uc g B e kvs H) g (B.out e):=by
 obtain⟨⟨d1,h1⟩,⟨d2,h2⟩,h3,h4,h5,h6,_,h9⟩:=R
 obtain⟨q1,q2,q3,q4,q5⟩:=fG B e.au (dj e (B.at e.au))
 have un:∀x,x≠g.de->x≠g.at e.au->uc g B e kvs H x=H x:=λx n1 n2=>by
  unfold uc
  rw[aw n1,aw n2]
 have k:∀{x:ah} {u:HO} (i:Nat),H x=some u->kd u=i->i≠6->i≠5->uc g B e kvs H x=some u:=λ{x u} i hx hk n6 n5=>by
  rw[un x (aN i 6 hx cw hk rfl n6) (aN i 5 hx (h4 e.au) hk rfl n5)]
  exact hx
 have hl:=NR (ok.so _) he
 refine⟨⟨d1,?_⟩,⟨d2,?_⟩,?_,λb=>?_,h5,h6,⟨gS kvs (Sum.inl e.num),?_,Nj dg,?_,λb x hx=>?_,λn v hv=>?_⟩,λb x hx=>?_⟩
 ·show _=some (HO.ins c.B d1 (nh g.nb g.ds g.de (B.out e).places (B.out e).aY (B.out e).last (B.out e).bE))
  unfold Bk.out
  rw[q2,q3,q4,q5]
  exact k 3 h1 rfl (by decide) (by decide)
 ·unfold Bk.out
  rw[q1]
  exact k 4 h2 rfl (by decide) (by decide)
 ·rw[un _ h6.symm (aN 6 5 h3 (h4 e.au))]
  exact h3
 ·unfold Bk.out
  by_cases hb:b=e.au
  ·subst hb
   rw[iw,BI]
   unfold uc
   rw[aw (aN 5 6 (h4 e.au) cw),aB]
   unfold refs
   rw[U4]
  ·have cZ:b= !e.au:=ix hb
   subst cZ
   rw[ir,un _ (aN 5 6 (h4 _) cw) (Pb h5 e.au).symm]
   exact h4 _
 ·unfold uc
  rw[aB]
 ·have z:=Vd dg (ahe (iN _ e he))
  unfold Bk.out
  rw[oE]
  have:=lS B e.au
  omega
 ·obtain⟨pD,_⟩:=pY (ok.so _) he hx
  rw[A7,ax (λz=>rQ ok he hx (qh z))]
  exact iN b x pD
 ·rw[A7]at hv
  by_cases hn:(Sum.inl n:Key)=Sum.inl e.num
  ·rw[aA hn]at hv
   cases hv
  ·rw[ax hn]at hv
   obtain⟨b,x,hx,ex⟩:=gq n v hv
   refine⟨b,x,?_,ex⟩
   unfold Bk.out
   by_cases hb:b=e.au
   ·subst hb
    rw[iw]
    exact(ye (ok.so _) he).mpr ⟨hx,λz=>hn (by rw[<-ex,z])⟩
   ·have cZ:b= !e.au:=ix hb
    subst cZ
    rw[ir]
    exact hx
 ·obtain⟨pD,_⟩:=pY (ok.so _) he hx
  obtain⟨⟨dx,en⟩,⟨dy,od⟩,rk⟩:=h9 b x pD
  exact⟨⟨dx,k 1 en rfl (by decide) (by decide)⟩,⟨dy,k 2 od rfl (by decide) (by decide)⟩,k 7 rk rfl (by decide) (by decide)⟩
section
variable {bW:ah} {a:c_}
theorem Tv:bc ["self","entry","entries"] ["self","entry"] (aX Nx):=bw
inductive agf(c:Cs)(vs:List V)(H:Hp)(Q:VK)(_:XK):Prop
 |mk (g:Ga) (B:Bk) (e:Ent) (_:vs= [.ref g.b,.ref e.ea]) (_:Rep c H g B) (_:B.Ok) (_:e∈B.at e.au) (_:∀H',Rep c H' g (B.out e)->(∀x,x≠g.at e.au->x≠g.de->H' x=H x)->Q .aE H')
theorem yi(C:bR K mg c)(F:da K mg a c):Kp P w K mg base 2 a.takeOut ["self","entry"] (agf c):=F.takeOut.kp λfd G=>by
 obtain⟨gY,G3,b3,k3⟩:Kp P w K mg base 1 a.find ["entries","rank"] (LS c):=F.find.kp λfd G=>Wh G C
 refine G.bT Tv λ_ _ _ _ H _ _ _ hr h=>?_
 obtain⟨g,B,e,rfl,R,ok,he,q⟩:=h
 have hu:=fc hr
 obtain⟨dxb,hb⟩:=id R.ob
 obtain⟨kvs,cw,dg,qC,iN,gq⟩:=id R.de
 have hl:=R.ls e.au
 obtain⟨⟨dx,bp⟩,⟨dy,cR⟩,qP⟩:=R.en _ e he
 have D2:=ok.ct
 have mr:=ok.cm
 have QL:=m_ B e.au
 refine⟨_,az (aZ 2 Tv.nd (uJ hu (aT (pv 0) rfl) (aT (aT (pv 1) rfl) rfl) (λ_ _=>rfl)))
  (az (cP (lX l8 PySem.F.slot_list_pop PySem.F.type_list_pop acY (pv 2) (av (bG G3 hr F.ph k3 b3 (av (pv 2) (av (aT (pv 1) rfl) ay))) ay)))
  (aD (cP (adT (aT (pv 0) rfl) (aT (aT (pv 1) rfl) rfl) ⟨rfl,rfl,rfl,rfl⟩)))),?_⟩
 refine(rX rfl (rA g.b c.B dxb rfl hb C.bS C.b2 rfl (rX rfl (rA e.ea c.E dx rfl bp C.bM C.e1 rfl (rA e.oa c.O dy rfl cR C.cN C.o2 rfl ⟨g.ds,.ref (g.at e.au),rfl,(by have:=fO.k (H:=H) (k:=Sum.inr (aH e.au)) R.ds;rw[Ga.AQ]at this;exact this),?_⟩)))))
 refine(rX rfl ⟨.inl ⟨rfl,_,aK.of hl⟩,rX rfl (rX rfl (rA e.ea c.E dx rfl bp C.bM C.e4 rfl ?_))⟩)
 refine⟨g.at e.au,e.ra,B.at e.au,e.k1,e.place,fi e (B.at e.au),rfl,hl,qP,λx hx=>R.en _ x hx,by omega,Bq _ _,λi x hx=>MI e (ok.so e.au) i x hx,?_⟩
 have hp:=M0 (ok.so _) he
 have eX:fi e (B.at e.au)< (B.at e.au).length:=(List.getElem?_eq_some_iff.mp hp).1
 have akd:fi e (B.at e.au)< (refs (B.at e.au)).length:=by rw[bH];exact eX
 have zA:pG (refs (B.at e.au)).length ((fi e (B.at e.au):Nat):Int)=some (fi e (B.at e.au)):=by
  unfold pG
  rw[aA (by omega),aA (by omega)]
  rfl
 refine⟨g.at e.au,refs (B.at e.au),_,fi e (B.at e.au),.ref e.ea,rfl,rfl,hl,by omega,by omega,(WR zA).1,by rw[fN,hp];rfl,?_⟩
 have lb:g.at e.au≠g.b:=aN 5 3 hl hb
 have lE:g.at e.au≠e.ea:=aN 5 1 hl bp
 have lo:g.at e.au≠e.oa:=aN 5 2 hl cR
 have dl:g.de≠g.at e.au:=aN 6 5 cw hl
 refine⟨_,rfl,g.b,c.B,dxb,_,_,rfl,(by rw[aw lb.symm];exact hb),C.bS,C.b3,rfl,g.de,rfl,.inl ⟨kvs,.inl (by rw[aw dl];exact cw)⟩,_,rfl,e.ea,c.E,dx,_,_,rfl,(by rw[aw lE.symm];exact bp),C.bM,C.e1,rfl,e.oa,c.O,dy,_,_,rfl,(by rw[aw lo.symm];exact cR),C.cN,C.o7,rfl,
  kvs,Sum.inl e.num,.ref e.ea,(by rw[aw dl];exact cw),rfl,iN _ e he,?_⟩
 exact q _ (aen R ok he cw dg qC iN gq) λx n1 n2=>by
  rw[aw n2,aw n1]
theorem ae2:bc ["self","entry"] ["self","entry"] (aX Nz):=bw
inductive af8(c:Cs)(vs:List V)(H:Hp)(Q:VK)(_:XK):Prop
 |mk (g:Ga) (B:Bk) (e:Ent) (_:vs= [.ref g.b,.ref e.ea]) (_:Rep c H g B) (_:B.Ok) (_:e∈B.at e.au) (_:∀r H',Rep c H' g ((B.out e).put e r)->(∀x o,H x=some o->¬bI g B x->H' x=some o)->Q .aE H')
theorem pR(so:eN (B.at e.au))(he:e∈B.at e.au){x:ah}(f:bI g (B.out e) x):bI g B x:=by
 rcases f with h|h|h|h|h| ⟨b,y,hy,rfl⟩
 ·exact .inl h
 ·exact .inr (.inl h)
 ·exact .inr (.inr (.inl h))
 ·exact .inr (.inr (.inr (.inl h)))
 ·exact .inr (.inr (.inr (.inr (.inl h))))
 ·exact .inr (.inr (.inr (.inr (.inr ⟨b,y,(pY so he hy).1,rfl⟩))))
theorem pZ(g:Ga)(B:Bk)(b:ai):bI g B (g.at b):=by
 unfold bI Ga.at
 cases b<;>simp
theorem VZ(C:bR K mg c)(F:da K mg a c):Kp P w K mg base 3 a.ud ["self","entry"] (af8 c):=F.ud.kp λfd G=>by
 obtain⟨cK,G1,b1,k1⟩:=yi (P:=P) (w:=w) (base:=base) C F
 obtain⟨dG,G2,b2,k2⟩:=RO (P:=P) (w:=w) (base:=base) C F
 refine G.bT ae2 λ_ _ _ _ _ _ _ _ hr h=>?_
 obtain⟨g,B,e,rfl,R,ok,he,q⟩:=h
 obtain⟨dxb,hb⟩:=id R.ob
 obtain⟨⟨dx,bp⟩,⟨dy,cR⟩,qP⟩:=R.en _ e he
 obtain⟨kvs,cw,_⟩:=id R.de
 refine⟨_,az (cP (d0 (pv 0) C.bS F.tX G1 hr b1 .nil cO (av (pv 1) ay))) (aD (cP (d0 (pv 0) C.bS F.Fv G2 hr b2 .nil cO (av (pv 1) ay)))),?_⟩
 refine(rX rfl (rM g.b dxb rfl hb rfl (rX rfl ⟨g,B,e,rfl,R,ok,he,λH1 R1 f1=>?_⟩)))
 obtain⟨Dq,fm⟩:=id R1.ob
 have bD:=ok.out e
 have D2:=bD.ct
 have mr:=bD.cm
 have e1:H1 e.ea=_:=(f1 e.ea (aN 1 5 bp (R.ls _)) (aN 1 6 bp cw)).trans bp
 have o1:H1 e.oa=_:=(f1 e.oa (aN 2 5 cR (R.ls _)) (aN 2 6 cR cw)).trans cR
 refine(rX rfl (rM g.b Dq rfl fm rfl (rX rfl ⟨g,B.out e,e,dx,dy,e.shown,.ref e.ra,rfl,R1,bD.so,by omega,e1,o1,λb x hx=>rQ ok he hx,λr H2 R2 f2=>?_⟩)))
 refine q r H2 R2 λx u hx nf=>f2 x u ?_ (λz=>nf (pR (ok.so _) he z)) λz=>nf (.inr (.inr (.inr (.inr (.inr ⟨_,e,he,z⟩)))))
 rw[f1 x (λz=>nf (by rw[z];exact pZ g B _)) (λz=>nf (.inr (.inr (.inr (.inr (.inl z))))))]
 exact hx
inductive aga(c:Cs)(vs:List V)(H:Hp)(Q:VK)(_:XK):Prop
 |mk (g:Ga) (B:Bk) (p m:Int) (_:vs= [.ref g.b,.int p,.int m]) (_:Rep c H g B) (_:∀H',Rep c H' g {B with last:=some p,bE:=B.bE+m}->(∀x,x≠g.b->H' x=H x)->Q .aE H')
theorem WQ(C:bR K mg c)(F:da K mg a c):Kp P w K mg base 1 a.record ["self","price","many"] (aga c):=F.record.kp λfd G=>by
 refine G.bT ae4 λ_ _ _ _ H _ _ _ _ h=>?_
 obtain⟨g,B,p,m,rfl,R,q⟩:=h
 obtain⟨dxb,hb⟩:=id R.ob
 refine⟨_,az (dW (pv 0) (pv 1) rfl) (aD (rH (pv 0) (pv 2) OL)),?_⟩
 refine(rX rfl (rX rfl ⟨g.b,c.B,dxb,rX rfl ⟨hb,C.bS,C.b6,(by show 7<1000;decide),?_⟩⟩))
 refine⟨_,rfl,g.b,c.B,dxb,_,_,rfl,aB,C.bS,C.b7,rfl,_,rfl,_,_,rfl,rfl,dxb,_,aB,(by show 7<1000;decide),?_⟩
 rw[fb]
 obtain⟨_,⟨d2,h2⟩,h3,h4,h5,h6,⟨kvs,h7,h8⟩,h9⟩:=R
 have k:∀{x:ah} {u v:HO} (i:Nat),H x=some u->kd u=i->i≠3->upd H g.b v x=some u:=λ{x u v} i hx hk n3=>by
  rw[aw (aN i 3 hx hb hk rfl n3)]
  exact hx
 refine q _ ⟨⟨dxb,aB⟩,⟨d2,k 4 h2 rfl (by decide)⟩,k 6 h3 rfl (by decide),λb=>k 5 (h4 b) rfl (by decide),h5,h6,⟨kvs,k 6 h7 rfl (by decide),h8⟩,λb x hx=>?_⟩ λx n=>aw n
 obtain⟨⟨dx,en⟩,⟨dy,od⟩,rk⟩:=h9 b x hx
 exact⟨⟨dx,k 1 en rfl (by decide)⟩,⟨dy,k 2 od rfl (by decide)⟩,k 7 rk rfl (by decide)⟩
end
open PySem L2
noncomputable def Ent.as(e:Ent)(l s:Int):Ent:={e with left:=l,shown:=s}
noncomputable def eL(n l s:Int)(xs:aa Ent):aa Ent:=xs.map λx=>if x.num=n then x.as l s else x
noncomputable def Bk.mod(B:Bk)(e:Ent)(l s:Int):Bk:=B.set e.au (eL e.num l s (B.at e.au))
theorem rV(n l s:Int)(x:Ent):(if x.num=n then x.as l s else x).ea=x.ea/\(if x.num=n then x.as l s else x).num=x.num/\(if x.num=n then x.as l s else x).au=x.au/\(if x.num=n then x.as l s else x).place=x.place/\(if x.num=n then x.as l s else x).k1=x.k1:=by
 split<;>exact⟨rfl,rfl,rfl,rfl,rfl⟩
theorem acN{n s:Int}(h:y∈eL n l s xs):∃x∈xs,y=if x.num=n then x.as l s else x:=by
 obtain⟨x,hx,e⟩:=u4.mp h
 exact⟨x,hx,e.symm⟩
theorem U2(l s:Int)(h:((e::r).map (·.num)).Nodup):eL e.num l s (e::r)=e.as l s::r:=by
 have h:(e.num::r.map (·.num)).Nodup:=h
 obtain⟨h1,_⟩:=List.nodup_cons.mp h
 unfold eL
 rw[dO,aA rfl]
 congr 1
 have:∀xs:aa Ent,(∀x∈xs,x.num≠e.num)->xs.map (λx=>if x.num=e.num then x.as l s else x)=xs:=λxs=>by
  induction xs with
  |nil=>intro _;rfl
  |cons y t ih=>
   intro hx
   rw[dO,ax (hx y bA),ih λx h=>hx x (cE _ h)]
 exact this r λx hx z=>h1 (u4.mpr ⟨x,hx,z⟩)
theorem zj6(n l s:Int)(xs:aa Ent):(eL n l s xs).map (·.num)=xs.map (·.num):=by
 unfold eL
 rw[gG]
 refine qg λx _=>?_
 exact(rV n l s x).2.1
theorem zj5(n l s:Int)(xs:aa Ent):refs (eL n l s xs)=refs xs:=by
 unfold eL refs
 rw[gG]
 refine qg λx _=>?_
 show V.ref _=V.ref _
 rw[(rV n l s x).1]
theorem zhw{n s:Int}(h:eN xs):eN (eL n l s xs):=by
 unfold eL
 refine List.pairwise_map.mpr (h.imp λ{x y} kB=>?_)
 unfold Ent.lt at kB ⊢
 rw[(rV n l s x).2.2.2.1,(rV n l s y).2.2.2.1,(rV n l s x).2.2.2.2,(rV n l s y).2.2.2.2]
 exact kB
theorem Bs(n l s:Int)(xs:aa Ent):(eL n l s xs).length=xs.length:=bH _
theorem oH{s:Int}(h:y∈(B.mod e l s).at b):∃x∈B.at b,y=if b=e.au/\x.num=e.num then x.as l s else x:=by
 rcases BD h with⟨hb,h'⟩ | ⟨hb,h'⟩
 ·subst hb
  obtain⟨x,hx,q⟩:=acN h'
  exact⟨x,hx,by rw[q];simp⟩
 ·refine⟨y,h',?_⟩
  have:¬(b=e.au/\y.num=e.num):=λz=>by
   rw[z.1]at hb
   revert hb
   cases e.au<;>simp
  rw[ax this]
theorem BC(b:ai)(e x:Ent)(l s:Int):(if b=e.au/\x.num=e.num then x.as l s else x).ea=x.ea/\(if b=e.au/\x.num=e.num then x.as l s else x).num=x.num/\(if b=e.au/\x.num=e.num then x.as l s else x).au=x.au/\(if b=e.au/\x.num=e.num then x.as l s else x).place=x.place:=by
 split<;>exact⟨rfl,rfl,rfl,rfl⟩
theorem Bk.Ok.mod(ok:B.Ok)(e:Ent)(l s:Int):(B.mod e l s).Ok:=by
 obtain⟨q1,q2,q3,q4,q5⟩:=fG B e.au (eL e.num l s (B.at e.au))
 have key:∀b y,y∈(B.mod e l s).at b->∃x∈B.at b,y.num=x.num/\y.au=x.au/\y.place=x.place:=λb y hy=>by
  obtain⟨x,hx,q⟩:=oH hy
  obtain⟨_,f2,f3,f4⟩:=BC b e x l s
  exact⟨x,hx,by rw[q];exact f2,by rw[q];exact f3,by rw[q];exact f4⟩
 refine⟨λb=>?_,λb y hy=>?_,λb=>?_,λx hx y hy=>?_,λb y hy=>?_,λb y hy=>?_,?_,by unfold Bk.mod;rw[q1];exact ok.cm⟩
 ·unfold Bk.mod
  by_cases hb:b=e.au
  ·subst hb
   rw[iw]
   exact zhw (ok.so _)
  ·have cZ:b= !e.au:=ix hb
   subst cZ
   rw[ir]
   exact ok.so _
 ·obtain⟨x,hx,_,f,_⟩:=key b y hy
  rw[f]
  exact ok.sd b x hx
 ·unfold Bk.mod
  by_cases hb:b=e.au
  ·subst hb
   rw[iw,zj6]
   exact ok.nd _
  ·have cZ:b= !e.au:=ix hb
   subst cZ
   rw[ir]
   exact ok.nd _
 ·obtain⟨x',cA,f,_⟩:=key true x hx
  obtain⟨y',gr,f',_⟩:=key false y hy
  rw[f,f']
  exact ok.nx x' cA y' gr
 ·obtain⟨x,hx,f,_⟩:=key b y hy
  unfold Bk.mod
  rw[f,q1]
  exact ok.lt b x hx
 ·obtain⟨x,hx,_,_,f⟩:=key b y hy
  unfold Bk.mod
  rw[f,q2]
  exact ok.pl b x hx
 ·unfold Bk.mod
  rw[oE,q1,Bs]
  have h1:=lS B e.au
  have h2:=ok.ct
  omega
theorem jZ(he:e∈B.at e.au)(l s:Int):e.as l s∈(B.mod e l s).at e.au:=by
 unfold Bk.mod
 rw[iw]
 exact u4.mpr ⟨e,he,by rw[aA rfl]⟩
theorem ym{l s:Int}(R:Rep c H g B)(ok:B.Ok)(he:e∈B.at e.au)(bp:H e.ea=some (.ins c.E dx (cY e.oa e.left e.shown (.ref e.ra)))):
  Rep c (upd H e.ea (.ins c.E dx (cY e.oa l s (.ref e.ra)))) g (B.mod e l s):=by
 have ke:=R.en _ e he
 obtain⟨⟨d1,h1⟩,⟨d2,h2⟩,h3,h4,h5,h6,⟨kvs,h7,h8,qC,iN,gq⟩,h9⟩:=R
 obtain⟨q1,q2,q3,q4,q5⟩:=fG B e.au (eL e.num l s (B.at e.au))
 have k:∀{x:ah} {u v:HO} (i:Nat),H x=some u->kd u=i->i≠1->upd H e.ea v x=some u:=λ{x u v} i hx hk n=>by
  rw[aw (aN i 1 hx bp hk rfl n)]
  exact hx
 refine⟨⟨d1,?_⟩,⟨d2,?_⟩,k 6 h3 rfl (by decide),λb=>?_,h5,h6,⟨kvs,k 6 h7 rfl (by decide),h8,?_,λb y hy=>?_,λn v hv=>?_⟩,λb y hy=>?_⟩
 ·show _=some (HO.ins c.B d1 (nh g.nb g.ds g.de (B.mod e l s).places (B.mod e l s).aY (B.mod e l s).last (B.mod e l s).bE))
  unfold Bk.mod
  rw[q2,q3,q4,q5]
  exact k 3 h1 rfl (by decide)
 ·unfold Bk.mod
  rw[q1]
  exact k 4 h2 rfl (by decide)
 ·unfold Bk.mod
  by_cases hb:b=e.au
  ·subst hb
   rw[iw,zj5]
   exact k 5 (h4 _) rfl (by decide)
  ·have cZ:b= !e.au:=ix hb
   subst cZ
   rw[ir]
   exact k 5 (h4 _) rfl (by decide)
 ·unfold Bk.mod
  rw[oE,Bs,lS]
  exact qC
 ·obtain⟨x,hx,q⟩:=oH hy
  obtain⟨f1,f2,_⟩:=BC b e x l s
  rw[q,f1,f2]
  exact iN b x hx
 ·obtain⟨b,x,hx,ex⟩:=gq n v hv
  unfold Bk.mod
  by_cases hb:b=e.au
  ·subst hb
   refine⟨e.au,if x.num=e.num then x.as l s else x,?_,by rw[(rV e.num l s x).2.1];exact ex⟩
   rw[iw]
   exact u4.mpr ⟨x,hx,rfl⟩
  ·have cZ:b= !e.au:=ix hb
   subst cZ
   refine⟨!e.au,x,?_,ex⟩
   rw[ir]
   exact hx
 ·obtain⟨x,hx,q⟩:=oH hy
  have kx:=h9 b x hx
  by_cases hq:b=e.au/\x.num=e.num
  ·rw[aA hq]at q
   obtain⟨hb,hn⟩:=hq
   subst hb
   have:x=e:=qa (ok.nd _) hx he hn
   subst this
   subst q
   obtain⟨_,⟨dy,od⟩,rk⟩:=kx
   exact⟨⟨dx,aB⟩,⟨dy,k 2 od rfl (by decide)⟩,k 7 rk rfl (by decide)⟩
  ·rw[ax hq]at q
   subst q
   have ne:y.ea≠e.ea:=λz=>by
    have hn:=jk.y_ kx ke z
    have hb:=yd (b:=b) ok b e.au hx he hn
    exact hq ⟨hb,hn⟩
   obtain⟨⟨dz,en⟩,⟨dy,od⟩,rk⟩:=kx
   exact⟨⟨dz,by rw[aw ne];exact en⟩,⟨dy,k 2 od rfl (by decide)⟩,k 7 rk rfl (by decide)⟩
theorem oz{s:Int}{x:ah}(f:bI g (B.mod e l s) x):bI g B x:=by
 rcases f with h|h|h|h|h| ⟨b,y,hy,rfl⟩
 ·exact .inl h
 ·exact .inr (.inl h)
 ·exact .inr (.inr (.inl h))
 ·exact .inr (.inr (.inr (.inl h)))
 ·exact .inr (.inr (.inr (.inr (.inl h))))
 ·obtain⟨x,hx,q⟩:=oH hy
  exact .inr (.inr (.inr (.inr (.inr ⟨b,x,hx,by rw[q];exact(BC b e x l s).1⟩))))
noncomputable def Bk.less(B:Bk)(e:Ent)(m:Int)(r:ah):Bk:=
 if e.left-m=0 then(B.mod e (e.left-m) (e.shown-m)).out (e.as (e.left-m) (e.shown-m))
 else if e.shown-m=0 then((B.mod e (e.left-m) (e.shown-m)).out (e.as (e.left-m) (e.shown-m))).put (e.as (e.left-m) (e.shown-m)) r
 else B.mod e (e.left-m) (e.shown-m)
theorem zkI(ok:B.Ok)(he:e∈B.at e.au){m:Int}{r x:ah}(f:bI g (B.less e m r) x):bI g B x:=by
 have hm:=jZ he (e.left-m) (e.shown-m)
 have so:eN ((B.mod e (e.left-m) (e.shown-m)).at (e.as (e.left-m) (e.shown-m)).au):=(ok.mod e _ _).so _
 unfold Bk.less at f
 split at f
 ·exact oz (pR so hm f)
 ·split at f
  ·rcases Nu f with z|z
   ·exact oz (pR so hm z)
   ·exact .inr (.inr (.inr (.inr (.inr ⟨_,e,he,z⟩))))
  ·exact oz f
open PySem L2
structure Cv where
 meet:Addr
 tV:Addr
structure qk(K:W.Frag)(mg:Str->Option Value)(m:Cv):Prop where
 meet:Dn K "meet" "meet" LF m.meet ["book","coming","other"]
 vR:mg "meet"=some (.ref m.meet)
 tV:Dn K "lessen" "lessen" N1 m.tV ["book","other","many"]
 P7:mg "lessen"=some (.ref m.tV)
section
variable {bW:ah} {a:c_} {m:Cv}
theorem YD(R:Rep c H g B){x:ah}{u:HO}(h:H x=some u)(f:bI g B x):kd u=1\/kd u=3\/kd u=4\/kd u=5\/kd u=6:=by
 have k:∀{v:HO} (i:Nat),H x=some v->kd v=i->kd u=i:=λ{v} i hv hi=>by
  rw[h]at hv
  cases hv
  exact hi
 rcases f with rfl|rfl|rfl|rfl|rfl| ⟨b,e,he,rfl⟩
 ·obtain⟨_,h1⟩:=R.ob
  exact .inr (.inl (k 3 h1 rfl))
 ·obtain⟨_,h1⟩:=R.nb
  exact .inr (.inr (.inl (k 4 h1 rfl)))
 ·exact .inr (.inr (.inr (.inl (k 5 (R.ls true) rfl))))
 ·exact .inr (.inr (.inr (.inl (k 5 (R.ls false) rfl))))
 ·obtain⟨kvs,h1,_⟩:=R.de
  exact .inr (.inr (.inr (.inr (k 6 h1 rfl))))
 ·obtain⟨dx,h1⟩:=(R.en b e he).en
  exact .inl (k 1 h1 rfl)
theorem oQ(R:Rep c H g B){x:ah}{u:HO}(i:Nat)(h:H x=some u)(hk:kd u=i:=by rfl)(hi:i=2\/i=7:=by decide):¬bI g B x:=λf=>by
 have:=YD R h f
 omega
theorem ziM{ca:ah}{u v:HO}(R:Rep c H g B)(h:H ca=some u)(hk:kd u=1)(nf:¬bI g B ca):Rep c (upd H ca v) g B:=by
 obtain⟨⟨d1,h1⟩,⟨d2,h2⟩,h3,h4,h5,h6,⟨kvs,h7,h8⟩,h9⟩:=R
 have k:∀{x:ah} {u':HO} (i:Nat),H x=some u'->kd u'=i->i≠1->upd H ca v x=some u':=λ{x u'} i hx hi n=>by
  rw[aw (aN i 1 hx h hi hk n)]
  exact hx
 refine⟨⟨d1,k 3 h1 rfl (by decide)⟩,⟨d2,k 4 h2 rfl (by decide)⟩,k 6 h3 rfl (by decide),λb=>k 5 (h4 b) rfl (by decide),h5,h6,⟨kvs,k 6 h7 rfl (by decide),h8⟩,λb e he=>?_⟩
 obtain⟨⟨dx,en⟩,⟨dy,od⟩,rk⟩:=h9 b e he
 refine⟨⟨dx,?_⟩,⟨dy,k 2 od rfl (by decide)⟩,k 7 rk rfl (by decide)⟩
 rw[aw λz=>nf (.inr (.inr (.inr (.inr (.inr ⟨b,e,he,z.symm⟩)))))]
 exact en
theorem aeX:bc ["book","other","many"] ["book","other","many"] (aX N1):=bw
inductive afW(c:Cs)(vs:List V)(H:Hp)(Q:VK)(_:XK):Prop
 |mk (g:Ga) (B:Bk) (e:Ent) (k:Int) (_:vs= [.ref g.b,.ref e.ea,.int k]) (_:Rep c H g B) (_:B.Ok) (_:e∈B.at e.au) (_:∀r H',Rep c H' g (B.less e k r)->(∃dx l s rk,H' e.ea=some (.ins c.E dx (cY e.oa l s rk)))->(∀x o,H x=some o->¬bI g B x->H' x=some o)->Q .aE H')
theorem abL(C:bR K mg c)(F:da K mg a c)(M:qk K mg m):Kp P w K mg base 4 m.tV ["book","other","many"] (afW c):=M.tV.kp λfd G=>by
 obtain⟨cK,G1,b1,k1⟩:=yi (P:=P) (w:=w) (base:=base) C F
 obtain⟨dG,G2,b2,k2⟩:=VZ (P:=P) (w:=w) (base:=base) C F
 refine G.bT aeX λ_ _ _ _ H _ _ _ hr h=>?_
 obtain⟨g,B,e,k,rfl,R,ok,he,q⟩:=h
 have di:bB 2 _:=hr.mono (by decide)
 obtain⟨⟨dx,bp⟩,⟨dy,cR⟩,qP⟩:=R.en _ e he
 refine⟨_,az (rH (pv 1) (pv 2) BW) (az (rH (pv 1) (pv 2) BW)
  (aD (bK (bC cQ (aT (pv 1) rfl) aF (a9 _)) (aD (cP (d0 (pv 0) C.bS F.tX G1 di b1 .nil cO (av (pv 1) ay))))
   (aD (bK (bC cQ (aT (pv 1) rfl) aF (a9 _)) (aD (cP (d0 (pv 0) C.bS F.Fw G2 hr b2 .nil cO (av (pv 1) ay)))) bZ))))),?_⟩
 refine⟨_,rfl,e.ea,c.E,dx,_,_,rfl,bp,C.bM,C.e2,rfl,_,rfl,_,_,rfl,rfl,dx,_,bp,(by show 4<1000;decide),?_⟩
 refine⟨_,rfl,e.ea,c.E,dx,_,_,rfl,aB,C.bM,C.e3,rfl,_,rfl,_,_,rfl,rfl,dx,_,aB,(by show 4<1000;decide),?_⟩
 rw[fb]
 have R1:Rep c (upd H e.ea (.ins c.E dx (cY e.oa (e.left-k) (e.shown-k) (.ref e.ra)))) g (B.mod e (e.left-k) (e.shown-k)):=ym R ok he bp
 have bD:=ok.mod e (e.left-k) (e.shown-k)
 have nO:=jZ he (e.left-k) (e.shown-k)
 obtain⟨dxb,fm⟩:=id R1.ob
 obtain⟨kvs,En,_⟩:=id R1.de
 have jt:=R1.ls
 have pq:upd H e.ea (.ins c.E dx (cY e.oa (e.left-k) (e.shown-k) (.ref e.ra))) e.ea=some (.ins c.E dx (cY e.oa (e.left-k) (e.shown-k) (.ref e.ra))):=aB
 have old:∀x o,H x=some o->¬bI g B x->upd H e.ea (.ins c.E dx (cY e.oa (e.left-k) (e.shown-k) (.ref e.ra))) x=some o:=λx o hx nf=>by
  rw[aw λz=>nf (.inr (.inr (.inr (.inr (.inr ⟨_,e,he,z⟩)))))]
  exact hx
 refine(rX rfl (rA e.ea c.E dx rfl aB C.bM C.e2 rfl ⟨rfl,rX rfl ?_⟩))
 by_cases h0:e.left-k=0
 ·have dd:decide (V.int (e.left-k)=V.int 0)=true:=by simp[h0]
  refine bY dd (rX rfl (rM g.b dxb rfl fm rfl (rX rfl ⟨g,_,e.as (e.left-k) (e.shown-k),rfl,R1,bD,nO,λH2 R2 f2=>?_⟩)))
  refine q 0 H2 (by unfold Bk.less;rw[aA h0];exact R2) ⟨dx,_,_,_,(f2 e.ea (aN 1 5 pq (jt _)) (aN 1 6 pq En)).trans pq⟩ λx o hx nf=>?_
  rw[f2 x (λz=>nf (by rw[z];exact pZ g B _)) (λz=>nf (.inr (.inr (.inr (.inr (.inl z))))))]
  exact old x o hx nf
 ·have dd:decide (V.int (e.left-k)=V.int 0)=false:=by simp[h0]
  refine bj dd (rX rfl (rA e.ea c.E dx rfl aB C.bM C.e3 rfl ⟨rfl,rX rfl ?_⟩))
  by_cases h1:e.shown-k=0
  ·have Dk:decide (V.int (e.shown-k)=V.int 0)=true:=by simp[h1]
   refine bY Dk (rX rfl (rM g.b dxb rfl fm rfl (rX rfl ⟨g,_,e.as (e.left-k) (e.shown-k),rfl,R1,bD,nO,λr H2 R2 f2=>?_⟩)))
   obtain⟨dz,hz⟩:=(R2.en _ _ (UP _ (e.as (e.left-k) (e.shown-k)) r)).en
   refine q r H2 (by unfold Bk.less;rw[ax h0,aA h1];exact R2) ⟨dz,_,_,_,hz⟩ λx o hx nf=>?_
   exact f2 x o (old x o hx nf) λz=>nf (oz z)
  ·have Dk:decide (V.int (e.shown-k)=V.int 0)=false:=by simp[h1]
   refine bj Dk ?_
   exact q 0 _ (by unfold Bk.less;rw[ax h0,ax h1];exact R1) ⟨dx,_,_,_,pq⟩ old
noncomputable def mn(l s:Int):Int:=if s<l then s else l
noncomputable def Bk.fA(B:Bk)(p k:Int):Bk:={B with last:=some p,bE:=B.bE+k}
theorem Ts:bc ["book","coming","other","many"] ["book","coming","other"] (aX LF):=bw
inductive afY(c:Cs)(vs:List V)(H:Hp)(Q:VK)(_:XK):Prop
 |mk (g:Ga) (B:Bk) (ca fQ oc mf:Addr) (left sh:Int) (rk:V) (ow:Int) (sd:Str) (pr:Option Int) (many:Int) (shows:Option Int) (way:Str) (num:V) (e:Ent) (_:vs= [.ref g.b,.ref ca,.ref e.ea]) (_:Rep c H g B) (_:B.Ok) (_:e∈B.at e.au) (_:H ca=some (.ins c.E fQ (cY oc left sh rk))) (_:H oc=some (.ins c.O mf (fh ow sd pr many shows way num))) (_:¬bI g B ca) (_:(e.owner=ow->∀t H',Rep c H' g (B.out e)->H' t=some (.tup [.str "out",.int e.num])->(∀x o,H x=some o->¬bI g B x->H' x=some o)->Q (.ref t) H')) (_:(e.owner≠ow->∀t r H',Rep c H' g ((B.less e (mn left e.shown) r).fA e.ar (mn left e.shown))->H' ca=some (.ins c.E fQ (cY oc (left-mn left e.shown) sh rk))->H' t=some (.tup [.str "trade",.int e.num,.int e.ar,.int (mn left e.shown)])->(∀x o,H x=some o->¬bI g B x->x≠ca->H' x=some o)->Q (.ref t) H'))
theorem abN(C:bR K mg c)(F:da K mg a c)(M:qk K mg m):Kp P w K mg base 5 m.meet ["book","coming","other"] (afY c):=M.meet.kp λfd G=>by
 obtain⟨cK,G1,b1,k1⟩:=yi (P:=P) (w:=w) (base:=base) C F
 obtain⟨dG,G2,b2,k2⟩:=abL (P:=P) (w:=w) (base:=base) C F M
 obtain⟨gY,G3,b3,k3⟩:=WQ (P:=P) (w:=w) (base:=base) C F
 refine G.bT Ts λ_ _ _ _ H _ _ _ hr h=>?_
 obtain⟨g,B,ca,fQ,oc,mf,left,sh,rk,ow,sd,pr,many,shows,way,num,e,rfl,R,ok,he,iK,jR,xk,q1,q2⟩:=h
 have b_:bB 1 _:=hr.mono (by decide)
 have di:bB 2 _:=hr.mono (by decide)
 obtain⟨dxb,hb⟩:=id R.ob
 obtain⟨⟨dx,bp⟩,⟨dy,cR⟩,qP⟩:=R.en _ e he
 obtain⟨kvs,cw,_⟩:=id R.de
 refine⟨_,az (bK (bC cQ (aT (aT (pv 2) rfl) rfl) (aT (aT (pv 1) rfl) rfl) (a9 _))
   (az (cP (d0 (pv 0) C.bS F.tX G1 di b1 .nil cO (av (pv 2) ay))) (aD (a8 (eM (av aJ (av (aT (aT (pv 2) rfl) rfl) ay)))))) bZ)
  (az (aZ 3 Ts.nd (c9 (pT rfl) (by rfl) C.min (by decide+kernel) (av (aT (pv 1) rfl) (av (aT (pv 2) rfl) ay))))
  (az (rH (pv 1) (pv 3) BW)
  (az (cP (bG G2 hr M.P7 k2 b2 (av (pv 0) (av (pv 2) (av (pv 3) ay)))))
  (az (cP (d0 (pv 0) C.bS F.Fx G3 b_ b3 .nil cO (av (aT (aT (pv 2) rfl) rfl) (av (pv 3) ay))))
  (aD (a8 (eM (av aJ (av (aT (aT (pv 2) rfl) rfl) (av (aT (aT (pv 2) rfl) rfl) (av (pv 3) ay))))))))))),?_⟩
 have two:∀x y:V,([x,y]:aa V).length<=sizeLine:=λx y=>by rw[a7];show 2<=16777216;decide
 have four:∀x y z u:V,([x,y,z,u]:aa V).length<=sizeLine:=λx y z u=>by rw[a7];show 4<=16777216;decide
 refine(rX rfl (rA e.ea c.E dx rfl bp C.bM C.e1 rfl (rA e.oa c.O dy rfl cR C.cN C.o1 rfl (rX rfl (rA ca c.E fQ rfl iK C.bM C.e1 rfl (rA oc c.O mf rfl jR C.cN C.o1 rfl ⟨rfl,rX rfl ?_⟩))))))
 by_cases how:e.owner=ow
 ·have dd:decide (V.int e.owner=V.int ow)=true:=by simp[how]
  refine bY dd (rX rfl (rM g.b dxb rfl hb rfl (rX rfl ⟨g,B,e,rfl,R,ok,he,λH1 R1 f1=>?_⟩)))
  have e1:H1 e.ea=_:=(f1 e.ea (aN 1 5 bp (R.ls _)) (aN 1 6 bp cw)).trans bp
  have o1:H1 e.oa=_:=(f1 e.oa (aN 2 5 cR (R.ls _)) (aN 2 6 cR cw)).trans cR
  refine(rX rfl (rA e.ea c.E dx rfl e1 C.bM C.e1 rfl (rA e.oa c.O dy rfl o1 C.cN C.o7 rfl ⟨two _ _,λt ht=>?_⟩)))
  refine q1 how t _ (aL.rep (aQ ht) R1) aB λx o hx nf=>aQ ht _ _ ?_
  rw[f1 x (λz=>nf (by rw[z];exact pZ g B _)) (λz=>nf (.inr (.inr (.inr (.inr (.inl z))))))]
  exact hx
 ·have dd:decide (V.int e.owner=V.int ow)=false:=by simp[how]
  refine bj dd (rX rfl (rA ca c.E fQ rfl iK C.bM C.e2 rfl (rX rfl (rA e.ea c.E dx rfl bp C.bM C.e3 rfl ⟨left,e.shown,rfl,?_⟩))))
  show oj _ _ _ (_::_::_::some (V.int (mn left e.shown))::_) _
  refine⟨_,rfl,ca,c.E,fQ,_,_,rfl,iK,C.bM,C.e2,rfl,_,rfl,_,_,rfl,rfl,fQ,_,iK,(by show 4<1000;decide),?_⟩
  have nce:ca≠e.ea:=λz=>xk (.inr (.inr (.inr (.inr (.inr ⟨_,e,he,z⟩)))))
  have R1:Rep c (upd H ca (.ins c.E fQ (cY oc (left-mn left e.shown) sh rk))) g B:=ziM R iK rfl xk
  have f1:∀x o,H x=some o->x≠ca->upd H ca (.ins c.E fQ (cY oc (left-mn left e.shown) sh rk)) x=some o:=λx o hx n=>by
   rw[aw n]
   exact hx
  refine(rX rfl (rX rfl (rX rfl ⟨g,B,e,mn left e.shown,rfl,R1,ok,he,λr H2 R2 ⟨kW,l2,s2,rk2,e2⟩ f2=>?_⟩)))
  have o2:H2 e.oa=_:=f2 e.oa _ (f1 e.oa _ cR (aN 2 1 cR iK)) (oQ R 2 cR)
  have c2:H2 ca=_:=f2 ca _ aB xk
  obtain⟨X3,i3⟩:=id R2.ob
  refine(rX rfl (rM g.b X3 rfl i3 rfl (rX rfl (rA e.ea c.E kW rfl e2 C.bM C.e1 rfl (rA e.oa c.O dy rfl o2 C.cN C.o3 rfl (rX rfl ⟨g,_,e.ar,mn left e.shown,rfl,R2,λH3 R3 f3=>?_⟩))))))
  have e3:H3 e.ea=_:=(f3 e.ea (aN 1 3 e2 i3)).trans e2
  have o3:H3 e.oa=_:=(f3 e.oa (aN 2 3 o2 i3)).trans o2
  have c3:H3 ca=_:=(f3 ca (aN 1 3 c2 i3)).trans c2
  refine(rX rfl (rA e.ea c.E kW rfl e3 C.bM C.e1 rfl (rA e.oa c.O dy rfl o3 C.cN C.o7 rfl (rX rfl (rA e.ea c.E kW rfl e3 C.bM C.e1 rfl (rA e.oa c.O dy rfl o3 C.cN C.o3 rfl (rX rfl ⟨four _ _ _ _,λt ht=>?_⟩)))))))
  refine q2 how t r _ (aL.rep (aQ ht) R3) (aQ ht _ _ c3) aB λx o hx nf nc=>aQ ht _ _ ?_
  have h2:=f2 x o (f1 x o hx nc) nf
  rw[f3 x λz=>nf (.inl z)]
  exact h2
end
end Fb
variable {m:Fb.Cv}
namespace Fb
open PySem L2
structure Bk.Pos(B:Bk):Prop where
 ps:∀b,∀e∈B.at b,1<=e.shown/\e.shown<=e.left/\e.left<=10000/\1<=e.ar/\e.ar<=1000000000/\∀k,e.shows=some k->1<=k
theorem UH{left:Int}(h:1<=left)(hs:∀k,shows=some k->1<=k):1<=cp shows left/\cp shows left<=left:=by
 unfold cp
 cases shows with
 |none=>exact⟨h,fM _⟩
 |some k=>
  have:=hs k rfl
  show 1<=(if left<k then left else k)/\(if left<k then left else k)<=left
  split<;>omega
theorem Bk.Pos.sub(p:B.Pos)(h:xs.Sublist (B.at b)):(B.set b xs).Pos:=⟨λb' x hx=>by
 rcases BD hx with⟨hb,cA⟩ | ⟨_,cA⟩
 ·subst hb
  exact p.ps _ x (h.subset cA)
 ·exact p.ps _ x cA⟩
theorem Bk.Pos.out(p:B.Pos)(e:Ent):(B.out e).Pos:=p.sub (NQ e _)
theorem Bk.Pos.put(p:B.Pos)(r:ah)(h1:1<=e.left)(h2:e.left<=10000)(h3:1<=e.ar)(h4:e.ar<=1000000000)(h5:∀k,e.shows=some k->1<=k):(B.put e r).Pos:=⟨λb x hx=>by
 rcases j7 hx with⟨_,q⟩ |hx
 ·subst q
  obtain⟨z1,z2⟩:=UH h1 h5
  exact⟨z1,z2,h2,h3,h4,h5⟩
 ·exact p.ps b x hx⟩
theorem Bk.Pos.mod(p:B.Pos)(e:Ent){s:Int}(h1:1<=s)(h2:s<=l)(h3:l<=10000):(B.mod e l s).Pos:=⟨λb y hy=>by
 obtain⟨x,hx,q⟩:=oH hy
 have:=p.ps b x hx
 rw[q]
 split
 ·exact⟨h1,h2,h3,this.2.2.2⟩
 ·exact this⟩
theorem rG(ok:B.Ok)(he:e∈B.at e.au)(l s:Int){x:Ent}(h:x∈((B.mod e l s).out (e.as l s)).at b):x∈B.at b/\x.num≠e.num:=by
 have hm:=jZ he l s
 have hn:x.num≠e.num:=rQ (ok.mod e l s) hm h
 obtain⟨h1,_⟩:=pY ((ok.mod e l s).so _) hm h
 obtain⟨y,hy,q⟩:=oH h1
 have f:=(BC b e y l s).2.1
 rw[ax λz=>hn (by rw[q,f];exact z.2)]at q
 rw[q]
 rw[q]at hn
 exact⟨hy,hn⟩
theorem Bk.Pos.less(p:B.Pos)(ok:B.Ok)(he:e∈B.at e.au){k:Int}(h1:1<=k)(h2:k<=e.shown)(r:ah):(B.less e k r).Pos:=by
 have pe:=p.ps _ e he
 unfold Bk.less
 split
 ·exact⟨λb x hx=>p.ps b x (rG ok he _ _ hx).1⟩
 ·split
  ·refine Bk.Pos.put ⟨λb x hx=>p.ps b x (rG ok he _ _ hx).1⟩ r ?_ ?_ pe.2.2.2.1 pe.2.2.2.2.1 pe.2.2.2.2.2
   ·show 1<=e.left-k
    omega
   ·show e.left-k<=10000
    omega
  ·exact p.mod e (by omega) (by omega) (by omega)
theorem Bk.Ok.less(ok:B.Ok)(he:e∈B.at e.au)(k:Int)(r:ah):(B.less e k r).Ok:=by
 have hm:=jZ he (e.left-k) (e.shown-k)
 have bD:=ok.mod e (e.left-k) (e.shown-k)
 unfold Bk.less
 split
 ·exact bD.out _
 ·split
  ·obtain⟨q1,_⟩:=fG (B.mod e (e.left-k) (e.shown-k)) e.au (dj (e.as (e.left-k) (e.shown-k)) ((B.mod e (e.left-k) (e.shown-k)).at e.au))
   obtain⟨q2,_⟩:=fG B e.au (eL e.num (e.left-k) (e.shown-k) (B.at e.au))
   have hc:((B.mod e (e.left-k) (e.shown-k)).out (e.as (e.left-k) (e.shown-k))).aG=B.aG:=q1.trans q2
   have bq:=ok.lt _ e he
   refine(bD.out _).put r bq.1 ?_ (λb x hx=>rQ bD hm hx) ?_
   ·rw[hc]
    exact bq.2
   ·rw[hc]
    have h1:((B.mod e (e.left-k) (e.shown-k)).out (e.as (e.left-k) (e.shown-k))).aU.length+((B.mod e (e.left-k) (e.shown-k)).out (e.as (e.left-k) (e.shown-k))).aV.length+1=B.aU.length+B.aV.length:=by
     have z1:=oE (B.mod e (e.left-k) (e.shown-k)) e.au (dj (e.as (e.left-k) (e.shown-k)) ((B.mod e (e.left-k) (e.shown-k)).at e.au))
     have z2:(dj (e.as (e.left-k) (e.shown-k)) ((B.mod e (e.left-k) (e.shown-k)).at e.au)).length+1=((B.mod e (e.left-k) (e.shown-k)).at e.au).length:=NR (bD.so _) hm
     have z3:=lS (B.mod e (e.left-k) (e.shown-k)) e.au
     have z4:=oE B e.au (eL e.num (e.left-k) (e.shown-k) (B.at e.au))
     have z5:=lS B e.au
     rw[Bs]at z4
     have z6:(B.mod e (e.left-k) (e.shown-k)).aU.length+(B.mod e (e.left-k) (e.shown-k)).aV.length=(B.at e.au).length+(B.at (!e.au)).length:=z4
     have z7:((B.mod e (e.left-k) (e.shown-k)).out (e.as (e.left-k) (e.shown-k))).aU.length+((B.mod e (e.left-k) (e.shown-k)).out (e.as (e.left-k) (e.shown-k))).aV.length=(dj (e.as (e.left-k) (e.shown-k)) ((B.mod e (e.left-k) (e.shown-k)).at e.au)).length+((B.mod e (e.left-k) (e.shown-k)).at (!e.au)).length:=z1
     omega
    have h2:=ok.ct
    omega
  ·exact bD
theorem acq(ok:B.Ok)(h:B.at b=e::r)(hb:e.au=b)(k:Int)(x:ah):(B.less e k x).at b=if e.left-k=0 then r else if e.shown-k=0 then g6 {e.as (e.left-k) (cp e.shows (e.left-k))with ra:=x,place:=B.places} r else e.as (e.left-k) (e.shown-k)::r:=by
 subst hb
 have hn:=ok.nd e.au
 rw[h]at hn
 have hm:(B.mod e (e.left-k) (e.shown-k)).at e.au=e.as (e.left-k) (e.shown-k)::r:=by
  unfold Bk.mod
  rw[iw,h,U2 _ _ hn]
 have ho:((B.mod e (e.left-k) (e.shown-k)).out (e.as (e.left-k) (e.shown-k))).at e.au=r:=by
  show(Bk.set _ e.au (dj (e.as (e.left-k) (e.shown-k)) ((B.mod e (e.left-k) (e.shown-k)).at e.au))).at e.au=r
  rw[iw,hm]
  unfold dj
  rw[ax (Ent.xa _)]
 unfold Bk.less
 split
 ·exact ho
 ·split
  ·have hp:=pV ((B.mod e (e.left-k) (e.shown-k)).out (e.as (e.left-k) (e.shown-k))) (e.as (e.left-k) (e.shown-k)) x
   have eX:((B.mod e (e.left-k) (e.shown-k)).out (e.as (e.left-k) (e.shown-k))).places=B.places:=by
    obtain⟨_,q1,_⟩:=fG (B.mod e (e.left-k) (e.shown-k)) e.au (dj (e.as (e.left-k) (e.shown-k)) ((B.mod e (e.left-k) (e.shown-k)).at e.au))
    obtain⟨_,q2,_⟩:=fG B e.au (eL e.num (e.left-k) (e.shown-k) (B.at e.au))
    exact q1.trans q2
   have pB:(((B.mod e (e.left-k) (e.shown-k)).out (e.as (e.left-k) (e.shown-k))).put (e.as (e.left-k) (e.shown-k)) x).at e.au=g6 {e.as (e.left-k) (e.shown-k)with ra:=x,place:=((B.mod e (e.left-k) (e.shown-k)).out (e.as (e.left-k) (e.shown-k))).places,shown:=cp e.shows (e.left-k)} (((B.mod e (e.left-k) (e.shown-k)).out (e.as (e.left-k) (e.shown-k))).at e.au):=hp
   rw[pB,ho,eX]
   rfl
  ·exact hm
theorem ziR(k:Int)(x:ah):(B.less e k x).at (!e.au)=B.at (!e.au):=by
 have hm:(B.mod e (e.left-k) (e.shown-k)).at (!e.au)=B.at (!e.au):=ir _ _ _
 have ho:((B.mod e (e.left-k) (e.shown-k)).out (e.as (e.left-k) (e.shown-k))).at (!e.au)=B.at (!e.au):=(ir _ _ _).trans hm
 unfold Bk.less
 split
 ·exact ho
 ·split
  ·exact(uD ((B.mod e (e.left-k) (e.shown-k)).out (e.as (e.left-k) (e.shown-k))) (e.as (e.left-k) (e.shown-k)) x).trans ho
  ·exact hm
theorem Om(h:B.at b=e::r)(hb:e.au=b):(B.out e).at b=r:=by
 subst hb
 unfold Bk.out
 rw[iw,h]
 unfold dj
 rw[ax (Ent.xa _)]
theorem Nl(ok:B.Ok)(h:B.at b=e::r)(hb:e.au=b)(k:Int)(x:ah):((B.less e k x).at b).length<=(B.at b).length:=by
 rw[acq ok h hb,h]
 split
 ·exact kM _
 ·split
  ·rw[Nn]
   exact bu _
  ·exact bu _
inductive Ev where
 |out (n:Int)
 |ip (n p k:Int)
noncomputable def Ev.vals:Ev->aa V
 | .out n=>[.str "out",.int n]
 | .ip n p k=>[.str "trade",.int n,.int p,.int k]
noncomputable def oN(H:Hp):aa V->aa Ev->Prop:=Paired λv ev=>∃t,v= .ref t/\H t=some (.tup ev.vals)
theorem Paired.snoc{α β:Type}{F:α->β->Prop}{x:α}{y:β}(h:F x y):∀{xs:aa α} {ys:aa β},Paired F xs ys->Paired F (xs++ [x]) (ys++ [y])
 |_,_,.nil=>.cons h .nil
 |_,_,.cons a r=>.cons a (Paired.snoc h r)
theorem Paired.len{α β:Type}{F:α->β->Prop}:∀{xs:aa α} {ys:aa β},Paired F xs ys->xs.length=ys.length
 |_,_,.nil=>rfl
 |_,_,.cons _ r=>by rw[d5,d5,Paired.len r]
inductive eC(ow:Int)(b:Bool)(pr:Option Int):Bk->Int->List Ev->Bk->Int->Prop
 |nil (B:Bk) (l:Int):eC ow b pr B l [] B l
 |out {B:Bk} {l:Int} {aS:List Ev} {B1:Bk} {l1:Int} {e:Ent} {r:List Ent}:eC ow b pr B l aS B1 l1->B1.at (!b)=e::r->l1≠0->cy e.ar (aH b) pr=true->e.owner=ow->eC ow b pr B l (aS++ [.out e.num]) (B1.out e) l1
 |ip {B:Bk} {l:Int} {aS:List Ev} {B1:Bk} {l1:Int} {e:Ent} {r:List Ent} (k:Addr):eC ow b pr B l aS B1 l1->B1.at (!b)=e::r->l1≠0->cy e.ar (aH b) pr=true->e.owner≠ow->
   eC ow b pr B l (aS++ [.ip e.num e.ar (mn l1 e.shown)]) ((B1.less e (mn l1 e.shown) k).fA e.ar (mn l1 e.shown)) (l1-mn l1 e.shown)
section
variable {bW:ah} {a:c_}
theorem NO{l:ah}{xs:aa V}{v:HO}(R:Rep c H g B)(h:H l=some (.lst xs))(nf:¬bI g B l):Rep c (upd H l v) g B:=by
 obtain⟨⟨d1,h1⟩,⟨d2,h2⟩,h3,h4,h5,h6,⟨kvs,h7,h8⟩,h9⟩:=R
 have k:∀{x:ah} {u':HO} (i:Nat),H x=some u'->kd u'=i->i≠5->upd H l v x=some u':=λ{x u'} i hx hi n=>by
  rw[aw (aN i 5 hx h hi rfl n)]
  exact hx
 refine⟨⟨d1,k 3 h1 rfl (by decide)⟩,⟨d2,k 4 h2 rfl (by decide)⟩,k 6 h3 rfl (by decide),λb=>?_,h5,h6,⟨kvs,k 6 h7 rfl (by decide),h8⟩,λb e he=>?_⟩
 ·rw[aw λz=>nf (by rw[<-z];exact pZ g B b)]
  exact h4 b
 ·obtain⟨⟨dx,en⟩,⟨dy,od⟩,rk⟩:=h9 b e he
  exact⟨⟨dx,k 1 en rfl (by decide)⟩,⟨dy,k 2 od rfl (by decide)⟩,k 7 rk rfl (by decide)⟩
theorem BN(ok:B.Ok)(p k:Int):(B.fA p k).Ok:=⟨ok.so,ok.sd,ok.nd,ok.nx,ok.lt,ok.pl,ok.ct,ok.cm⟩
theorem N9(ok:B.Pos)(p k:Int):(B.fA p k).Pos:=⟨ok.ps⟩
theorem AL:bc ["book","coming","happened","other"] ["book","coming"] (aX NA):=bw
inductive afZ(c:Cs)(vs:List V)(H:Hp)(Q:VK)(_:XK):Prop
 |mk (g:Ga) (B:Bk) (ca fQ oc mf:Addr) (left sh:Int) (rk:V) (ow:Int) (b:Bool) (pr:Option Int) (many:Int) (shows:Option Int) (way:Str) (num:V) (_:vs= [.ref g.b,.ref ca]) (_:Rep c H g B) (_:B.Ok) (_:B.Pos) (_:0<=left) (_:left<=10000) (_:H ca=some (.ins c.E fQ (cY oc left sh rk))) (_:H oc=some (.ins c.O mf (fh ow (aH b) pr many shows way num))) (_:¬bI g B ca) (_:∀(aS:List Ev) (B':Bk) (l':Int) (lst:Addr) (ts:List V) (H':Hp),eC ow b pr B left aS B' l'->eu (B'.at (!b)) l' b pr= .aE->Rep c H' g B'->B'.Ok->B'.Pos->0<=l'->l'<=left->H' ca=some (.ins c.E fQ (cY oc l' sh rk))->H' lst=some (.lst ts)->oN H' ts aS->aS.length<=11000->(∀x o,H x=some o->¬bI g B x->x≠ca->H' x=some o)->(∀x,bI g B' x->bI g B x)->H lst=none->Q (.ref lst) H')
inductive OZ(c:Cs)(H:Hp)(g:Ga)(B:Bk)(ow:Int)(b:Bool)(pr:Option Int)(left:Int)(ca l fQ oc:Addr)(sh:Int)(rk:V)(μ:Nat)(σ:St)(H':Hp):Prop
 |mk (aS:List Ev) (B1:Bk) (l1:Int) (ts:List V) (_:σ= [some (.ref g.b),some (.ref ca),some (.ref l),some (eu (B1.at (!b)) l1 b pr)]) (_:eC ow b pr B left aS B1 l1) (_:Rep c H' g B1) (_:B1.Ok) (_:B1.Pos) (_:0<=l1) (_:l1<=left) (_:H' ca=some (.ins c.E fQ (cY oc l1 sh rk))) (_:H' l=some (.lst ts)) (_:oN H' ts aS) (_:∀x o,H x=some o->¬bI g B x->x≠ca->H' x=some o) (_:∀x,bI g B1 x->bI g B x) (_:μ=l1.toNat+(B1.at (!b)).length) (_:aS.length+μ<=left.toNat+(B.at (!b)).length)
theorem abO(C:bR K mg c)(F:da K mg a c)(D:oY K mg d)(M:qk K mg m):Kp P w K mg base 6 d.tY ["book","coming"] (afZ c):=D.tY.kp λfd G=>by
 obtain⟨cK,G1,b1,k1⟩:=abR (P:=P) (w:=w) (base:=base) C F D
 obtain⟨dG,G2,b2,k2⟩:=abN (P:=P) (w:=w) (base:=base) C F M
 refine G.bT AL λ_ _ _ _ H _ _ _ hr h=>?_
 obtain⟨g,B,ca,fQ,oc,mf,left,sh,rk,ow,b,pr,many,shows,way,num,rfl,R,ok,ps,mE,jt,iK,jR,xk,q⟩:=h
 have di:bB 2 _:=hr.mono (by decide)
 refine⟨_,az (aZ 2 AL.nd (fW ay))
  (az (aZ 3 AL.nd (bG G1 di D.DJ k1 b1 (av (pv 0) (av (pv 1) ay))))
  (az (yc jG (gB (rP (pv 3)))
   (az (cP (lX l8 sF sG rJ (pv 2) (av (bG G2 hr M.vR k2 b2 (av (pv 0) (av (pv 1) (av (pv 3) ay)))) ay)))
    (aD (aZ 3 AL.nd (bG G1 di D.DJ k1 b1 (av (pv 0) (av (pv 1) ay)))))))
  (aD (a8 (pv 2))))),?_⟩
 refine⟨(by rw[a7];show 0<=16777216;decide),λl hl=>?_⟩
 have s1:aL H (upd H l (.lst [])):=aQ hl
 refine(rX rfl (rX rfl ⟨g,B,ca,fQ,oc,mf,left,sh,rk,ow,b,pr,many,shows,way,num,rfl,aL.rep s1 R,s1 _ _ iK,s1 _ _ jR,?_⟩))
 have pI:¬bI g B l:=λf=>by
  obtain⟨u,hu⟩:=rK R f
  rw[hl]at hu
  cases hu
 have nlc:l≠ca:=(a6 iK hl).symm
 have ako:(B.at (!b)).length<=500:=by
  have z1:=m_ B (!b)
  have z2:=ok.ct
  have z3:=ok.cm
  omega
 refine⟨OZ c H g B ow b pr left ca l fQ oc sh rk,
  ⟨_,[],B,left,[],rfl,.nil _ _,aL.rep s1 R,ok,ps,mE,fM _,s1 _ _ iK,aB,.nil,λx o hx _ _=>s1 x o hx,λ_ f=>f,rfl,by simp⟩,?_⟩
 rintro μ σ H' ⟨aS,B1,l1,ts,rfl,met,R1,bD,jw,nZ,lA,c1,w6,vF,f1,ic,rfl,hμ⟩
 refine(rX rfl (rX rfl ?_))
 cases hx:B1.at (!b)with
 |nil=>
  have lj:eu (B1.at (!b)) l1 b pr= .aE:=by rw[hx];rfl
  refine bj (by show(!decide (eu [] l1 b pr=V.aE))=false;rfl) (rX rfl ?_)
  exact q aS B1 l1 l ts H' met lj R1 bD jw nZ lA c1 w6 vF (by omega) f1 ic hl
 |cons e r=>
  by_cases QD:l1≠0/\cy e.ar (aH b) pr=true
  ·obtain⟨Ep,mI⟩:=QD
   have lj:eu (e::r) l1 b pr= .ref e.ea:=by simp[eu,Ep,mI]
   refine bY (by rw[lj];rfl) ?_
   refine⟨λσ2 H2=>∃μ',μ'<l1.toNat+(B1.at (!b)).length/\OZ c H g B ow b pr left ca l fQ oc sh rk μ' σ2 H2,λσ2 H2 h=>by rw[<-hx];exact h,?_⟩
   have gO:e.au= !b:=bD.sd (!b) e (by rw[hx];exact bA)
   have fS:e∈B1.at e.au:=by rw[gO,hx];exact bA
   have pe:=jw.ps _ e fS
   have SG:¬bI g B1 ca:=λf=>xk (ic _ f)
   have An:¬bI g B1 l:=λf=>pI (ic _ f)
   have ub:H' oc=_:=f1 oc _ jR (oQ R 2 jR) (aN 2 1 jR iK)
   have zG:ts.length<sizeLine:=by
    have:=Paired.len vF
    rw[a7]
    omega
   refine(rX rfl ⟨.inl ⟨rfl,_,aK.of w6⟩,rX rfl (rX rfl (rX rfl ?_))⟩)
   rw[lj]
   refine⟨g,B1,ca,fQ,oc,mf,l1,sh,rk,ow,aH b,pr,many,shows,way,num,e,rfl,R1,bD,fS,c1,ub,SG,λhow t H2 R2 t2 f2=>?_,λhow t kk H2 R2 c2 t2 f2=>?_⟩
   ·have l2:=f2 l _ w6 An
    have c2:=f2 ca _ c1 SG
    have o2:=f2 oc _ ub (oQ R1 2 ub)
    refine⟨l,ts,.ref t,rfl,rfl,l2,zG,?_⟩
    have ch:∀{x:ah} {u:HO} (i:Nat),H2 x=some u->kd u=i->i≠5->upd H2 l (.lst (ts++ [.ref t])) x=some u:=λ{x u} i cA hk n=>by
     rw[aw (aN i 5 cA l2 hk rfl n)]
     exact cA
    have R3:Rep c (upd H2 l (.lst (ts++ [.ref t]))) g (B1.out e):=NO R2 l2 λf=>An (pR (bD.so _) fS f)
    refine(rX rfl (rX rfl ⟨g,B1.out e,ca,fQ,oc,mf,l1,sh,rk,ow,b,pr,many,shows,way,num,rfl,R3,ch 1 c2 rfl (by decide),ch 2 o2 rfl (by decide),?_⟩))
    have ha:=Om hx gO
    refine⟨l1.toNat+((B1.out e).at (!b)).length,by rw[ha,hx,d5];omega,aS++ [.out e.num],B1.out e,l1,ts++ [.ref t],rfl,.out met hx Ep mI how,R3,bD.out e,jw.out e,nZ,lA,ch 1 c2 rfl (by decide),aB,?_,λx o cA nf nc=>?_,λx f=>ic x (pR (bD.so _) fS f),rfl,?_⟩
    ·refine Paired.snoc ⟨t,rfl,ch 7 t2 rfl (by decide)⟩ (Paired.eJ vF λv ev ⟨t',h1,h2⟩=>⟨t',h1,ch 7 (f2 t' _ h2 (oQ R1 7 h2)) rfl (by decide)⟩)
    ·rw[aw (a6 cA hl)]
     exact f2 x o (f1 x o cA nf nc) λf=>nf (ic x f)
    ·rw[ha,gF]
     rw[hx,d5]at hμ
     show aS.length+1+_<=_
     omega
   ·have ada:l≠ca:=nlc
    have l2:=f2 l _ w6 An ada
    have o2:=f2 oc _ ub (oQ R1 2 ub) (aN 2 1 ub c1)
    have wD:1<=mn l1 e.shown/\mn l1 e.shown<=e.shown/\mn l1 e.shown<=l1:=by
     unfold mn
     split<;>omega
    refine⟨l,ts,.ref t,rfl,rfl,l2,zG,?_⟩
    have ch:∀{x:ah} {u:HO} (i:Nat),H2 x=some u->kd u=i->i≠5->upd H2 l (.lst (ts++ [.ref t])) x=some u:=λ{x u} i cA hk n=>by
     rw[aw (aN i 5 cA l2 hk rfl n)]
     exact cA
    have kY:∀x,bI g ((B1.less e (mn l1 e.shown) kk).fA e.ar (mn l1 e.shown)) x->bI g B1 x:=λx f=>zkI (r:=kk) bD fS f
    have R3:Rep c (upd H2 l (.lst (ts++ [.ref t]))) g ((B1.less e (mn l1 e.shown) kk).fA e.ar (mn l1 e.shown)):=NO R2 l2 λf=>An (kY _ f)
    refine(rX rfl (rX rfl ⟨g,_,ca,fQ,oc,mf,l1-mn l1 e.shown,sh,rk,ow,b,pr,many,shows,way,num,rfl,R3,ch 1 c2 rfl (by decide),ch 2 o2 rfl (by decide),?_⟩))
    have ha:(((B1.less e (mn l1 e.shown) kk).fA e.ar (mn l1 e.shown)).at (!b)).length<=(B1.at (!b)).length:=Nl bD hx gO _ _
    refine⟨(l1-mn l1 e.shown).toNat+(((B1.less e (mn l1 e.shown) kk).fA e.ar (mn l1 e.shown)).at (!b)).length,by omega,aS++ [.ip e.num e.ar (mn l1 e.shown)],_,l1-mn l1 e.shown,ts++ [.ref t],rfl,.ip kk met hx Ep mI how,R3,BN (bD.less fS _ _) _ _,N9 (jw.less bD fS wD.1 wD.2.1 _) _ _,by omega,by omega,ch 1 c2 rfl (by decide),aB,?_,λx o cA nf nc=>?_,λx f=>ic x (kY x f),rfl,?_⟩
    ·refine Paired.snoc ⟨t,rfl,ch 7 t2 rfl (by decide)⟩ (Paired.eJ vF λv ev ⟨t',h1,h2⟩=>⟨t',h1,ch 7 (f2 t' _ h2 (oQ R1 7 h2) (aN 7 1 h2 c1)) rfl (by decide)⟩)
    ·rw[aw (a6 cA hl)]
     exact f2 x o (f1 x o cA nf nc) (λf=>nf (ic x f)) nc
    ·rw[gF]
     show aS.length+1+_<=_
     omega
  ·have lj:eu (e::r) l1 b pr= .aE:=by
    by_cases h0:l1=0
    ·simp[eu,h0]
    ·have:¬cy e.ar (aH b) pr=true:=λz=>QD ⟨h0,z⟩
     simp[eu,h0,this]
   refine bj (by rw[lj];rfl) (rX rfl ?_)
   exact q aS B1 l1 l ts H' met (by rw[hx];exact lj) R1 bD jw nZ lA c1 w6 vF (by omega) f1 ic hl
end
end Fb
variable {aS iG:aa Fb.Ev}
namespace Fb
open PySem L2
theorem OG{c:ai}{U X:Prop}(x:X)(h:c=true->X->U):if c=true then U else X:=by
 cases c with
 |true=>exact bL (h rfl x)
 |false=>exact bF x
theorem Ob{A B:Prop}(h:if false=true then A else B):B:=by
 rw[ax cb]at h
 exact h
theorem acs(ok:B.Ok)(he:e∈B.at e.au){k:Int}{r:ah}{x:Ent}(h:x∈(B.less e k r).at b):∃y∈B.at b,y.num=x.num/\y.ar=x.ar/\y.owner=x.owner:=by
 unfold Bk.less at h
 split at h
 ·exact⟨x,(rG ok he _ _ h).1,rfl,rfl,rfl⟩
 ·split at h
  ·rcases j7 h with⟨hb,q⟩ |h
   ·subst q
    rw[hb]
    exact⟨e,he,rfl,rfl,rfl⟩
   ·exact⟨x,(rG ok he _ _ h).1,rfl,rfl,rfl⟩
  ·obtain⟨y,hy,q⟩:=oH h
   refine⟨y,hy,?_⟩
   rw[q]
   split<;>exact⟨rfl,rfl,rfl⟩
theorem acr(B:Bk)(e:Ent)(k:Int)(r:ah):(B.less e k r).aG=B.aG/\(B.less e k r).aY=B.aY/\(B.less e k r).last=B.last/\(B.less e k r).bE=B.bE:=by
 obtain⟨m1,m2,m3,m4,m5⟩:=fG B e.au (eL e.num (e.left-k) (e.shown-k) (B.at e.au))
 obtain⟨o1,o2,o3,o4,o5⟩:=fG (B.mod e (e.left-k) (e.shown-k)) e.au (dj (e.as (e.left-k) (e.shown-k)) ((B.mod e (e.left-k) (e.shown-k)).at e.au))
 obtain⟨p1,p2,p3,p4,p5⟩:=uH ((B.mod e (e.left-k) (e.shown-k)).out (e.as (e.left-k) (e.shown-k))) (e.as (e.left-k) (e.shown-k)) r
 unfold Bk.less
 split
 ·exact⟨o1.trans m1,o3.trans m3,o4.trans m4,o5.trans m5⟩
 ·split
  ·exact⟨p1.trans (o1.trans m1),p3.trans (o3.trans m3),p4.trans (o4.trans m4),p5.trans (o5.trans m5)⟩
  ·exact⟨m1,m3,m4,m5⟩
theorem acu(ok:B.Ok)(h:B.at b=e::r)(hb:e.au=b)(k:Int)(x:ah):(B.less e k x).aU.length+(B.less e k x).aV.length<=B.aU.length+B.aV.length:=by
 have h1:=Nl ok h hb k x
 subst hb
 have h2:=ziR (B:=B) (e:=e) k x
 have h3:=lS (B.less e k x) e.au
 have h4:=lS B e.au
 rw[h2]at h3
 omega
theorem adJ(e:Ent):(B.out e).aU.length+(B.out e).aV.length<=B.aU.length+B.aV.length:=by
 have h1:=oE B e.au (dj e (B.at e.au))
 have h2:=(NQ e (B.at e.au)).length_le
 have h3:=lS B e.au
 show(B.set e.au (dj e (B.at e.au))).aU.length+(B.set e.au (dj e (B.at e.au))).aV.length<=_
 omega
structure vl(B B':Bk):Prop where
 ca:B'.aG=B.aG
 cl:B'.aY=B.aY
 ln:B'.aU.length+B'.aV.length<=B.aU.length+B.aV.length
 nm:∀b,∀x∈B'.at b,∃y∈B.at b,y.num=x.num/\y.ar=x.ar/\y.owner=x.owner
theorem eC.iO{l':Int}(h:eC ow b pr B l aS B' l')(ok:B.Ok):vl B B'/\B'.Ok:=by
 induction h with
 |nil=>exact⟨⟨rfl,rfl,bu _,λb x hx=>⟨x,hx,rfl,rfl,rfl⟩⟩,ok⟩
 | @out aS B1 l1 e r m h hl hs ho ih=>
  obtain⟨⟨a1,a2,a3,a4⟩,bD⟩:=ih
  have gO:e.au= !b:=bD.sd (!b) e (by rw[h];exact bA)
  have fS:e∈B1.at e.au:=by rw[gO,h];exact bA
  obtain⟨q1,_,q3,_⟩:=fG B1 e.au (dj e (B1.at e.au))
  refine⟨⟨q1.trans a1,q3.trans a2,eA (adJ e) a3,λb' x hx=>a4 b' x (pY (bD.so _) fS hx).1⟩,bD.out e⟩
 | @ip aS B1 l1 e r k m h hl hs ho ih=>
  obtain⟨⟨a1,a2,a3,a4⟩,bD⟩:=ih
  have gO:e.au= !b:=bD.sd (!b) e (by rw[h];exact bA)
  have fS:e∈B1.at e.au:=by rw[gO,h];exact bA
  obtain⟨q1,q2,_⟩:=acr B1 e (mn l1 e.shown) k
  refine⟨⟨q1.trans a1,q2.trans a2,eA (acu bD h gO _ _) a3,λb' x hx=>?_⟩,BN (bD.less fS _ _) _ _⟩
  obtain⟨y,hy,z1,z2,z3⟩:=acs (r:=k) bD fS hx
  obtain⟨y',gr,w1,w2,w3⟩:=a4 b' y hy
  exact⟨y',gr,w1.trans z1,w2.trans z2,w3.trans z3⟩
noncomputable def Bk.cX(B:Bk):Bk:={B with aG:=B.aG+1}
noncomputable def oX(B:Bk)(ow:Int)(b:ai)(pr:ae Int)(many:Int)(way:Str)(aS:aa Ev)(B2:Bk)(l:Int):Prop:=
 ((B.aY=true\/mQ B ow b pr many way=false)/\aS= []/\B2=B.cX/\l=many)\/(B.aY=false/\mQ B ow b pr many way=true/\eC ow b pr B.cX many aS B2 l/\eu (B2.at (!b)) l b pr= .aE)
noncomputable def uL(B:Bk)(ow:Int)(b:ai)(pr:ae Int)(many:Int)(shows:ae Int)(way:Str)(aS:aa Ev)(B':Bk):Prop:=
 ∃B2 l,oX B ow b pr many way aS B2 l/\0<=l/\l<=many/\((way="rest"/\0<l/\∃ce o p r,pr=some p/\B'=B2.put ⟨ce,o,0,B.aG,ow,b,p,many,shows,l,0,0⟩ r)\/(¬(way="rest"/\0<l)/\B'=B2))
theorem ziY{side:Str}(h:dN side ar many shows way=true):∀k,shows=some k->1<=k:=λk hk=>by
 subst hk
 unfold dN lQ at h
 simp at h
 omega
theorem zkD{side:Str}(h:dN side ar many shows "rest"=true):∃p,ar=some p/\1<=p/\p<=1000000000:=by
 cases ar with
 |some p=>
  refine⟨p,rfl,?_⟩
  unfold dN fI at h
  simp at h
  omega
 |none=>
  unfold dN fI at h
  simp at h
theorem zkE{side:Str}(h:dN side ar many shows way=true):1<=many/\many<=10000:=by
 unfold dN fL at h
 simp at h
 omega
theorem ziX{side:Str}(h:dN side ar many shows way=true):∃b,side=aH b:=by
 unfold dN at h
 have h1:oC side=true:=by
  cases e:oC side with
  |true=>rfl
  |false=>
   rw[e]at h
   exact absurd h (by simp)
 unfold oC wX at h1
 simp[nG]at h1
 rcases h1 with h1|h1
 ·exact⟨true,by first|exact h1|exact h1.symm⟩
 ·exact⟨false,by first|exact h1|exact h1.symm⟩
section
variable {bW:ah} {a:c_}
theorem uj:bc ["book","owner","side","price","many","shows","way","order","number","coming","happened"] ["book","owner","side","price","many","shows","way"] (aX OB):=bw
inductive af5(bo nn:Addr)(c:Cs)(vs:List V)(H:Hp)(Q:VK)(E:XK):Prop
 |mk (g:Ga) (B:Bk) (owner:Int) (side:Str) (ar:Option Int) (many:Int) (shows:Option Int) (way:Str) (_:vs= [.ref g.b,.int owner,.str side,oV ar,.int many,oV shows,.str way]) (_:Rep c H g B) (_:B.Ok) (_:B.Pos) (_:B.aG<400) (_:Small side ar many shows way) (_:(dN side ar many shows way=false->∀e H',aL H H'->E (.ref bo) e H')) (_:(dN side ar many shows way=true->B.aY=true->way≠"rest"->∀e H',aL H H'->E (.ref nn) e H')) (_:(dN side ar many shows way=true->(B.aY=true->way="rest")->∀(b:Bool) (t l:Addr) (ts:List V) (aS:List Ev) (H':Hp) (B':Bk),side=aH b->H' t=some (.tup [.int B.aG,.ref l])->H' l=some (.lst ts)->oN H' ts aS->aS.length<=11000->uL B owner b ar many shows way aS B'->Rep c H' g B'->B'.Ok->B'.Pos->B'.aG=B.aG+1->B'.aY=B.aY->Fr H g B H' B'->Q (.ref t) H'))
theorem abU(T:fP K mg bo nt nn be)(O:jJ K mg bW gw)(C:bR K mg c)(F:da K mg a c)(D:oY K mg d)(M:qk K mg m):Kp P w K mg base 7 d.place ["book","owner","side","price","many","shows","way"] (af5 bo nn c):=D.place.kp λfd G=>by
 obtain⟨cK,G1,b1,k1⟩:=abT (P:=P) (w:=w) (base:=base) T O C F
 obtain⟨dG,G2,b2,k2⟩:=Bd (P:=P) (w:=w) (base:=base) C F
 obtain⟨gY,G3,b3,k3⟩:=abq (P:=P) (w:=w) (base:=base) C F
 obtain⟨kX,G4,b4,k4⟩:=abE (P:=P) (w:=w) (base:=base) C F
 obtain⟨mh,G5,b5,k5⟩:=abM (P:=P) (w:=w) (base:=base) C F D
 obtain⟨PH,G6,b6,k6⟩:=abO (P:=P) (w:=w) (base:=base) C F D M
 obtain⟨PJ,G7,b7,k7⟩:=RO (P:=P) (w:=w) (base:=base) C F
 refine G.ri uj λ_ _ _ _ H _ Q _ hr h=>?_
 obtain⟨g,B,owner,side,ar,many,shows,way,rfl,R,ok,ps,mr,sm,Y7,Z3,ZE⟩:=h
 have b_:bB 1 _:=hr.mono (by decide)
 have di:bB 2 _:=hr.mono (by decide)
 have tN:bB 3 _:=hr.mono (by decide)
 refine⟨_,az (aZ 7 uj.nd (Wb F.Su G1 tN rfl C.mgO b1 .nil (oO λ_ _ _ h=>h) (av (pv 1) (av (pv 2) (av (pv 3) (av (pv 4) (av (pv 5) (av (pv 6) ay))))))))
  (az (bK (PW.pt (iR (e8 (m8 (pv 0) C.bS F.tW G2 b_ b2 .nil cO)) (jD (bC hX (pv 6) aJ (a9 _)))))
   (aD (lR rfl rfl T.Ak T.xQ (lT λ_ _ _ h=>h) (av (pX (.cons aJ (.cons (Wd (pv 6)) (.cons aJ .nil))) (by decide)) ay))) bZ)
  (az (aZ 8 uj.nd (d0 (aT (pv 0) rfl) C.yY F.Sg G3 b_ b3 .nil cO (av (pv 7) ay)))
  (az (aZ 9 uj.nd (Wb F.Ss G4 di rfl C.mgE b4 .nil cO (av (pv 7) ay)))
  (az (aZ 10 uj.nd (fW ay))
  (az (bK (PW.pt (iR (jd (e8 (m8 (pv 0) C.bS F.tW G2 b_ b2 .nil cO))) (jD (e8 (bG G5 tN D.P8 k5 b5 (av (pv 0) (av (pv 7) ay)))))))
   (aD (aZ 10 uj.nd (bG G6 hr D.P9 k6 b6 (av (pv 0) (av (pv 9) ay))))) bZ)
  (az (bK (PW.pt (iR (bC cQ (pv 6) aJ (a9 _)) (jD (bC oP (aT (pv 9) rfl) aF (a9 _)))))
   (aD (cP (d0 (pv 0) C.bS F.Fv G7 di b7 .nil cO (av (pv 9) ay)))) bZ)
  (aD (a8 (eM (av (pv 8) (av (pv 10) ay))))))))))),?_⟩
 refine(rX rfl (rX rfl (rX rfl (rX rfl (rX rfl (rX rfl (λo dy dh dg dc=>⟨o,dy,owner,side,ar,many,shows,way,rfl,aB,sm,λhg H2 o2 f2=>⟨rfl,?_⟩,λhb e=>Y7 hb e _ ?_⟩)))))))
 rotate_left
 ·exact λx u hx=>by rw[aw (a6 hx dh),aw (a6 hx dg)];exact hx
 obtain⟨b,rfl⟩:=ziX hg
 obtain⟨pz,wA⟩:=zkE hg
 have s2:aL H H2:=λx u hx=>by
  rw[f2 x (a6 hx dh),aw (a6 hx dh),aw (a6 hx dg)]
  exact hx
 have R2:=aL.rep s2 R
 obtain⟨dxb,i3⟩:=id R2.ob
 obtain⟨dn,qJ⟩:=id R2.nb
 refine(rX rfl (rM g.b dxb rfl i3 rfl ⟨g,B,rfl,R2,rX rfl ?_⟩))
 by_cases wI:B.aY=true/\way≠"rest"
 ·refine bY wI.1 (rX rfl ⟨rfl,rX rfl (bY (by simp[wI.2]) ?_)⟩)
  exact(rX rfl ⟨by decide+kernel,rX rfl (rX rfl ⟨sm.w2,rX rfl ⟨sm.w2,rX rfl ⟨by decide+kernel,λy hy=>⟨kG,λe=>Z3 hg wI.1 wI.2 e _ s2⟩⟩⟩⟩)⟩)
 have Qr:B.aY=true->way="rest":=λz=>yA λy=>wI ⟨z,y⟩
 refine OG (bF ?_) λhc x=>(rX rfl ⟨rfl,rX rfl (bj (by rw[Qr hc];rfl) (Ob x))⟩)
 have k:=λt l ts aS H' B'=>ZE hg Qr b t l ts aS H' B' rfl
 refine(rX rfl (rA g.b c.B dxb rfl i3 C.bS C.b1 rfl (rM g.nb dn rfl qJ rfl (rX rfl ⟨g.nb,dn,o,dy,B.aG,owner,aH b,ar,many,shows,way,.aE,rfl,qJ,o2,λH3 n3 o3 f3=>?_⟩))))
 have R3:Rep c H3 g B.cX:=zjD R2 o2 n3 f3
 refine(rX rfl (λce vD tw Qs akb=>⟨ce,vD,o,dy,owner,aH b,ar,many,shows,way,.int B.aG,rfl,aB,?_,λH4 c4 f4=>⟨rfl,?_⟩⟩))
 ·rw[aw (a6 o3 tw),aw (a6 o3 Qs)]
  exact o3
 have s4:aL H3 H4:=λx u hx=>by
  rw[f4 x (a6 hx tw),aw (a6 hx tw),aw (a6 hx Qs)]
  exact hx
 refine⟨(by rw[a7];show 0<=16777216;decide),λl hl=>?_⟩
 have s5:aL H4 (upd H4 l (.lst [])):=aQ hl
 have l5:upd H4 l (.lst []) l=some (.lst []):=aB
 generalize hH5:upd H4 l (.lst [])=H5 at*
 have R4:Rep c H4 g B.cX:=aL.rep s4 R3
 have R5:Rep c H5 g B.cX:=aL.rep s5 R4
 obtain⟨X5,Y5⟩:=id R5.ob
 have o5:=s5 _ _ (s4 _ _ o3)
 have c5:=s5 _ _ c4
 have ij:B.cX.Ok:=ok.admit (by omega)
 have xG:B.cX.Pos:=⟨ps.ps⟩
 have SU:∀x u,H x=some u->x≠g.nb->H3 x=some u:=λx u hx hn=>by
  rw[f3 x hn (a6 hx dh)]
  exact s2 x u hx
 have Cp:H ce=none:=by
  cases q:H ce with
  |none=>rfl
  |some u=>
   have:=SU ce u q (a6 n3 tw).symm
   rw[tw]at this
   cases this
 have ac7:¬bI g B.cX ce:=λf=>by
  obtain⟨u,hu⟩:=rK R3 f
  rw[tw]at hu
  cases hu
 have pI:¬bI g B.cX l:=λf=>by
  obtain⟨u,hu⟩:=rK R4 f
  rw[hl]at hu
  cases hu
 have FO:∀x u,H x=some u->¬bI g B x->H5 x=some u:=λx u hx nf=>s5 _ _ (s4 _ _ (SU x u hx λz=>nf (.inr (.inl z))))
 have len0:∀x y:V,([x,y]:aa V).length<=sizeLine:=λx y=>by rw[a7];show 2<=16777216;decide
 have fin:∀(lz:ah) (ts:aa V) (aS:aa Ev) (B2:Bk) (lf:Int) (Hx:Hp),oX B owner b ar many way aS B2 lf->0<=lf->lf<=many->Rep c Hx g B2->B2.Ok->B2.Pos->vl B.cX B2->Hx ce=some (.ins c.E vD (cY o lf 0 .aE))->Hx o=some (.ins c.O dy (fh owner (aH b) ar many shows way (.int B.aG)))->
   Hx lz=some (.lst ts)->¬bI g B2 lz->oN Hx ts aS->aS.length<=11000->(∀x u,H x=some u->¬bI g B x->Hx x=some u)->(∀x,bI g B2 x->bI g B x)->
   oj (T3 (TX (hV (e7 mW (aW 6) (tC (.str "rest")))) (hV (e7 (jW λi j=>.bl (decide (j<i))) (i9 K (aW 9) "remaining") (tC (.int 0))))) (TZ (L4 c.B "put" (TL c) [] E0 (aW 0) (du (aW 9) g7))) T6) (AX (rD (du (aW 8) (du (aW 10) g7)))) {nx:=λ_ H'=>Q .aE H',rt:=Q} [some (.ref g.b),some (.int owner),some (.str (aH b)),some (oV ar),some (.int many),some (oV shows),some (.str way),some (.ref o),some (.int B.aG),some (.ref ce),some (.ref lz)] Hx:=?fn
 ·-- if not book.is_calling() and may_meet(book,order)
  refine⟨_,rfl,g.b,X5,_,rfl,Y5,rfl,g,_,rfl,R5,_,rfl,?_⟩
  have Sf:vl B.cX B.cX:=⟨rfl,rfl,bu _,λb x hx=>⟨x,hx,rfl,rfl,rfl⟩⟩
  show if(!B.aY)=true then _ else _
  cases Qn:B.aY with
  |true=>exact bF (bF (fin l [] [] B.cX many H5 (.inl ⟨.inl Qn,rfl,rfl,rfl⟩) (by omega) (fM _) R5 ij xG Sf c5 o5 l5 pI .nil (by decide) FO λ_ f=>f))
  |false=>
   refine bL (rX rfl (rX rfl ⟨g,_,o,dy,owner,b,ar,many,shows,way,.int B.aG,rfl,R5,o5,λH6 s6=>(rX rfl ?_)⟩))
   have R6:=aL.rep s6 R5
   cases zJ:mQ B owner b ar many way with
   |false=>exact bj zJ (fin l [] [] B.cX many H6 (.inl ⟨.inr zJ,rfl,rfl,rfl⟩) (by omega) (fM _) R6 ij xG Sf (s6 _ _ c5) (s6 _ _ o5) (s6 _ _ l5) pI .nil (by decide) (λx u hx nf=>s6 _ _ (FO x u hx nf)) λ_ f=>f)
   |true=>
    refine bY zJ (rX rfl (rX rfl ⟨g,B.cX,ce,vD,o,dy,many,0,.aE,owner,b,ar,many,shows,way,.int B.aG,rfl,R6,ij,xG,by omega,wA,s6 _ _ c5,s6 _ _ o5,ac7,λaS B2 lf lz ts H7 met lj R7 ok7 ps7 mE jt c7 l7 Yp nP f7 PQ ZX=>?_⟩))
    refine fin lz ts aS B2 lf H7 (.inr ⟨Qn,zJ,met,lj⟩) mE jt R7 ok7 ps7 (met.iO ij).1 c7 ?_ l7 ?_ Yp nP ?_ PQ
    ·exact f7 o _ (s6 _ _ o5) (oQ R6 2 (s6 _ _ o5)) (aN 2 1 (s6 _ _ o5) (s6 _ _ c5))
    ·intro f
     obtain⟨u,hu⟩:=rK R6 (PQ _ f)
     rw[ZX]at hu
     cases hu
    ·exact λx u hx nf=>f7 x u (s6 _ _ (FO x u hx nf)) nf (a6 hx Cp)
 intro lz ts aS B2 lf Hx v9 Eu Ew Rx As FV Ah cx ox lx nfx Dz nP FP zg
 obtain⟨X6,Za⟩:=id Rx.ob
 have D2:((B.aU.length+B.aV.length:Nat):Int)<=B.aG:=ok.ct
 have qF:B2.aU.length+B2.aV.length<=B.aU.length+B.aV.length:=Ah.ln
 have iK:B2.aG=B.aG+1:=Ah.ca
 have df:B2.aY=B.aY:=Ah.cl
 have ky:∀b',∀x∈B2.at b',x.num≠B.aG:=λb' x hx=>by
  obtain⟨y,hy,jT,_⟩:=Ah.nm b' x hx
  have:y.num<B.aG:=(ok.lt b' y hy).2
  omega
 refine(rX rfl ⟨rfl,rX rfl ?_⟩)
 by_cases hw:way="rest"
 ·subst hw
  obtain⟨p,rfl,g0,eV⟩:=zkD hg
  refine bL (rX rfl (rA ce c.E vD rfl cx C.bM C.e2 rfl (r2 rfl rfl (rX rfl ?_))))
  by_cases zF:0<lf
  ·refine bY (bO zF) ?_
   refine(rX rfl (rM g.b X6 rfl Za rfl (rX rfl ⟨g,_,⟨ce,o,0,B.aG,owner,b,p,many,shows,lf,0,0⟩,vD,dy,0,.aE,rfl,Rx,As.so,(by omega),cx,ox,ky,λr H8 R8 f8=>?_⟩)))
   refine(rX rfl (rX rfl ⟨len0 _ _,λt ht=>?_⟩))
   obtain⟨q1,q2,q3,q4,q5⟩:=uH B2 ⟨ce,o,0,B.aG,owner,b,p,many,shows,lf,0,0⟩ r
   refine k t lz ts aS _ _ aB (aQ ht _ _ (f8 _ _ lx nfx (aN 5 1 lx cx))) (Paired.eJ Dz λv ev ⟨t',h1,h2⟩=>⟨t',h1,aQ ht _ _ (f8 t' _ h2 (oQ Rx 7 h2) (aN 7 1 h2 cx))⟩) nP
    ⟨B2,lf,v9,Eu,Ew,.inl ⟨rfl,zF,ce,o,p,r,rfl,rfl⟩⟩ (aL.rep (aQ ht) R8) (As.put r (by show(0:Int)<=B.aG;omega) (by show B.aG<B2.aG;omega) ky (by omega)) (FV.put r (by show 1<=lf;omega) (by show lf<=10000;omega) g0 eV (ziY hg)) (q1.trans iK) (q3.trans df) ⟨λx u hx t6=>?_,λx fx=>?_⟩
   ·exact aQ ht _ _ (f8 x u (FP x u hx t6) (λf=>t6 (zg x f)) (a6 hx Cp))
   ·rcases Nu fx with z|z
    ·exact .inl (zg x z)
    ·exact .inr (by rw[z];exact Cp)
  ·refine bj (cW zF) (rX rfl (rX rfl ⟨len0 _ _,λt ht=>?_⟩))
   exact k t lz ts aS _ _ aB (aQ ht _ _ lx) (Paired.eJ Dz λv ev ⟨t',h1,h2⟩=>⟨t',h1,aQ ht _ _ h2⟩) nP ⟨B2,lf,v9,Eu,Ew,.inr ⟨λz=>zF z.2,rfl⟩⟩ (aL.rep (aQ ht) Rx) As FV iK df ⟨λx u hx t6=>aQ ht _ _ (FP x u hx t6),λx fx=>.inl (zg x fx)⟩
 ·have dd:decide (V.str way=V.str ("rest":Str))=false:=by simp[hw]
  refine bj dd (bF (rX rfl (rX rfl ⟨len0 _ _,λt ht=>?_⟩)))
  exact k t lz ts aS _ _ aB (aQ ht _ _ lx) (Paired.eJ Dz λv ev ⟨t',h1,h2⟩=>⟨t',h1,aQ ht _ _ h2⟩) nP ⟨B2,lf,v9,Eu,Ew,.inr ⟨λz=>hw z.1,rfl⟩⟩ (aL.rep (aQ ht) Rx) As FV iK df ⟨λx u hx t6=>aQ ht _ _ (FP x u hx t6),λx fx=>.inl (zg x fx)⟩
end
open PySem L2
structure fe where
 entryOf:Addr
 Ad:Addr
 last:Addr
 cancel:Addr
 change:Addr
 call:Addr
structure jl(K:W.Frag)(mg:Str->Option Value)(c:Cs)(n:fe):Prop where
 entryOf:Dn K "entry_of" "Book.entry_of" NN n.entryOf ["self","number"]
 xc:Meth K c.B "entry_of" n.entryOf
 Ad:Dn K "is_crossed" "Book.is_crossed" UJ n.Ad ["self"]
 acG:Meth K c.B "is_crossed" n.Ad
 last:Dn K "last" "Book.last" Ly n.last ["self"]
 Fu:Meth K c.B "last" n.last
 cancel:Dn K "cancel" "cancel" N8 n.cancel ["book","number"]
 vO:mg "cancel"=some (.ref n.cancel)
 change:Dn K "change" "change" N7 n.change ["book","number","many"]
 vP:mg "change"=some (.ref n.change)
 call:Dn K "call" "call" Lx n.call ["book"]
 vL:mg "call"=some (.ref n.call)
section
variable {bW:ah} {a:c_} {n:fe}
theorem aeO:bc ["self","number"] ["self","number"] (aX NN):=bw
inductive afK(nt:Addr)(c:Cs)(vs:List V)(H:Hp)(Q:VK)(E:XK):Prop
 |mk (g:Ga) (B:Bk) (k:Int) (_:vs= [.ref g.b,.int k]) (_:Rep c H g B) (_:k.natAbs<10^30) (_:(∀b,∀e∈B.at b,e.num=k->Q (.ref e.ea) H)) (_:((∀b,∀e∈B.at b,e.num≠k)->∀x,E (.ref nt) x H))
theorem Bj(T:fP K mg bo nt nn be)(C:bR K mg c)(N:jl K mg c n):Kp P w K mg base 1 n.entryOf ["self","number"] (afK nt c):=N.entryOf.kp λfd G=>by
 refine G.ri aeO λ_ _ _ _ _ _ _ _ hr h=>?_
 obtain⟨g,B,k,rfl,R,hk,q1,q2⟩:=h
 have hu:=fc hr
 obtain⟨dxb,hb⟩:=R.ob
 obtain⟨kvs,cw,_,_,iN,gq⟩:=R.de
 refine⟨_,az (bK (gB (zjR hu (pv 1) (aT (pv 0) rfl)) (by with_unfolding_all rfl))
  (aD (lR rfl rfl T.Sn T.Mp (lT λ_ _ _ h=>h) (av (pX (.cons aJ (.cons (oF (pv 1)) (.cons aJ .nil))) (by decide)) ay))) bZ)
  (aD (a8 (uJ hu (aT (pv 0) rfl) (pv 1) (λ_ _=>rfl)))),?_⟩
 refine(rX rfl (rX rfl (rA g.b c.B dxb rfl hb C.bS C.b3 rfl ⟨g.de,rX rfl ⟨fO.k (k:=Sum.inl k) cw,rX rfl ?_⟩⟩)))
 cases e:bQ kvs (Sum.inl k)with
 |none=>
  have no:∀b,∀e∈B.at b,e.num≠k:=λb x hx z=>by
   have:=iN b x hx
   rw[z,e]at this
   cases this
  exact bL (rX rfl ⟨by decide+kernel,rX rfl ⟨k,rfl,hk,λy hy=>(rX rfl ⟨hy,rX rfl ⟨by decide+kernel,λy2 gP=>⟨kG,q2 no⟩⟩⟩)⟩⟩)
 |some v=>
  obtain⟨b,x,hx,ex⟩:=gq k v e
  have ev:=iN b x hx
  rw[ex,e]at ev
  cases ev
  exact bF (rX rfl (rA g.b c.B dxb rfl hb C.bS C.b3 rfl (rX rfl ⟨g.de,.ref x.ea,rfl,(by have:=fO.k (k:=Sum.inl k) cw;rw[e]at this;exact this),q1 b x hx ex⟩)))
theorem aeV:bc ["self"] ["self"] (aX Ly):=bw
inductive afS(c:Cs)(vs:List V)(H:Hp)(Q:VK)(_:XK):Prop
 |mk (g:Ga) (B:Bk) (_:vs= [.ref g.b]) (_:Rep c H g B) (_:Q (oV B.last) H)
theorem RM(C:bR K mg c)(N:jl K mg c n):Kp P w K mg base 1 n.last ["self"] (afS c):=N.last.kp λfd G=>by
 refine G.bT aeV λ_ _ _ _ _ _ _ _ _ h=>?_
 obtain⟨g,B,rfl,R,q⟩:=h
 obtain⟨dx,hb⟩:=R.ob
 exact⟨_,aD (a8 (aT (pv 0) rfl)),_,rfl,g.b,c.B,dx,_,_,rfl,hb,C.bS,C.b6,rfl,q⟩
noncomputable def yk(B:Bk):ai:=match B.aU,B.aV with
 |x::_,y::_=>decide (y.ar<=x.ar)
 |_,_=>false
end
open PySem L2
section
variable {bW:ah} {a:c_} {n:fe}
theorem Tj:bc ["book","number","entry"] ["book","number"] (aX N8):=bw
inductive afu(nt:Addr)(c:Cs)(vs:List V)(H:Hp)(Q:VK)(E:XK):Prop
 |mk (g:Ga) (B:Bk) (k:Int) (_:vs= [.ref g.b,.int k]) (_:Rep c H g B) (_:B.Ok) (_:k.natAbs<10^30) (_:(∀e∈B.at e.au,e.num=k->∀H',Rep c H' g (B.out e)->(∀x o,H x=some o->¬bI g B x->H' x=some o)->Q (.int e.left) H')) (_:((∀b,∀e∈B.at b,e.num≠k)->∀x,E (.ref nt) x H))
theorem abv(T:fP K mg bo nt nn be)(C:bR K mg c)(F:da K mg a c)(N:jl K mg c n):Kp P w K mg base 3 n.cancel ["book","number"] (afu nt c):=N.cancel.kp λfd G=>by
 obtain⟨cK,G1,b1,k1⟩:=Bj (P:=P) (w:=w) (base:=base) T C N
 obtain⟨dG,G2,b2,k2⟩:=yi (P:=P) (w:=w) (base:=base) C F
 refine G.ri Tj λ_ _ _ _ _ _ _ _ hr h=>?_
 obtain⟨g,B,k,rfl,R,ok,hk,q1,q2⟩:=h
 have b_:bB 1 _:=hr.mono (by decide)
 have di:bB 2 _:=hr.mono (by decide)
 obtain⟨dxb,hb⟩:=id R.ob
 obtain⟨kvs,cw,_⟩:=id R.de
 refine⟨_,az (aZ 2 Tj.nd (d0 (pv 0) C.bS N.xc G1 b_ b1 .nil (oO λ_ _ _ h=>h) (av (pv 1) ay)))
  (az (cP (d0 (pv 0) C.bS F.tX G2 di b2 .nil cO (av (pv 2) ay)))
  (aD (a8 (aT (pv 2) rfl)))),?_⟩
 refine(rX rfl (rM g.b dxb rfl hb rfl (rX rfl ⟨g,B,k,rfl,R,hk,λb e he wo=>?_,q2⟩)))
 have hs:=ok.sd b e he
 subst hs
 obtain⟨⟨dx,bp⟩,_,_⟩:=R.en _ e he
 refine(rX rfl (rM g.b dxb rfl hb rfl (rX rfl ⟨g,B,e,rfl,R,ok,he,λH1 R1 f1=>?_⟩)))
 have e1:H1 e.ea=_:=(f1 e.ea (aN 1 5 bp (R.ls _)) (aN 1 6 bp cw)).trans bp
 refine(rX rfl (rA e.ea c.E dx rfl e1 C.bM C.e2 rfl (q1 e he wo H1 R1 λx o hx nf=>?_)))
 rw[f1 x (λz=>nf (by rw[z];exact pZ g B _)) (λz=>nf (.inr (.inr (.inr (.inr (.inl z))))))]
 exact hx
noncomputable def Bk.chg(B:Bk)(e:Ent)(k:Int)(r:ah):Bk:=if e.left<k then((B.mod e k e.shown).out (e.as k e.shown)).put (e.as k e.shown) r else B.mod e k (mn e.shown k)
theorem ziT(T:fP K mg bo nt nn be)(O:jJ K mg bW gw)(F:da K mg a c):Kp P w K mg base 1 a.qp ["many"] (TH bo):=F.qp.kp λfd G=>Uv G T O
theorem LK:bc ["book","number","many","entry","more"] ["book","number","many"] (aX N7):=bw
inductive afx(bo nt:Addr)(c:Cs)(vs:List V)(H:Hp)(Q:VK)(E:XK):Prop
 |mk (g:Ga) (B:Bk) (k many:Int) (_:vs= [.ref g.b,.int k,.int many]) (_:Rep c H g B) (_:B.Ok) (_:k.natAbs<10^30) (_:many.natAbs<10^30) (_:(∀e∈B.at e.au,e.num=k->fL many=true->∀r H',Rep c H' g (B.chg e many r)->(∀x o,H x=some o->¬bI g B x->H' x=some o)->Q .aE H')) (_:(∀e∈B.at e.au,e.num=k->fL many=false->∀x,E (.ref bo) x H)) (_:((∀b,∀e∈B.at b,e.num≠k)->∀x,E (.ref nt) x H))
theorem aby(T:fP K mg bo nt nn be)(O:jJ K mg bW gw)(C:bR K mg c)(F:da K mg a c)(N:jl K mg c n):Kp P w K mg base 4 n.change ["book","number","many"] (afx bo nt c):=N.change.kp λfd G=>by
 obtain⟨cK,G1,b1,k1⟩:=Bj (P:=P) (w:=w) (base:=base) T C N
 obtain⟨dG,G2,b2,k2⟩:=ziT (P:=P) (w:=w) (base:=base) T O F
 obtain⟨gY,G3,b3,k3⟩:=VZ (P:=P) (w:=w) (base:=base) C F
 refine G.ri LK λ_ _ _ _ H _ Q _ hr h=>?_
 obtain⟨g,B,k,many,rfl,R,ok,hk,hm,q1,q2,q3⟩:=h
 have b_:bB 1 _:=hr.mono (by decide)
 obtain⟨dxb,hb⟩:=id R.ob
 refine⟨_,az (aZ 3 LK.nd (d0 (pv 0) C.bS N.xc G1 b_ b1 .nil (oO λ_ _ _ h=>h) (av (pv 1) ay)))
  (az (cP (kI G2 b_ rfl F.DG k2 b2 .nil (oO λ_ _ _ h=>h) (av (pv 2) ay)))
  (az (aZ 4 LK.nd (Oj (adN (pv 2) (aT (pv 3) rfl))))
  (az (dW (pv 3) (pv 2) rfl)
  (aD (bK (e8 (pv 4)) (aD (cP (d0 (pv 0) C.bS F.Fw G3 hr b3 .nil cO (av (pv 3) ay))))
   (aD (dW (pv 3) (c9 (pT rfl) (by rfl) C.min (by decide+kernel) (av (aT (pv 3) rfl) (av (pv 2) ay))) rfl))))))),?_⟩
 refine(rX rfl (rM g.b dxb rfl hb rfl (rX rfl ⟨g,B,k,rfl,R,hk,λb e he wo=>?_,q3⟩)))
 have hs:=ok.sd b e he
 subst hs
 obtain⟨⟨dx,bp⟩,_,_⟩:=R.en _ e he
 refine(rX rfl ⟨many,rfl,hm,λqG=>?_,λqG=>q2 e he wo qG⟩)
 refine(rX rfl (rX rfl (rA e.ea c.E dx rfl bp C.bM C.e2 rfl (r2 rfl rfl ?_))))
 refine(rX rfl (rX rfl ⟨e.ea,c.E,dx,rX rfl ⟨bp,C.bM,C.e2,(by show 4<1000;decide),?_⟩⟩))
 refine(rX rfl (rX rfl ?_))
 have R1:Rep c (upd H e.ea (.ins c.E dx (cY e.oa many e.shown (.ref e.ra)))) g (B.mod e many e.shown):=ym R ok he bp
 have bD:=ok.mod e many e.shown
 have nO:=jZ he many e.shown
 obtain⟨Dq,fm⟩:=id R1.ob
 have old:∀x o u,H x=some o->¬bI g B x->upd H e.ea u x=some o:=λx o u hx nf=>by
  rw[aw λz=>nf (.inr (.inr (.inr (.inr (.inr ⟨_,e,he,z⟩)))))]
  exact hx
 by_cases bq:e.left<many
 ·refine bY (bO bq) (rX rfl (rM g.b Dq rfl fm rfl (rX rfl ⟨g,_,e.as many e.shown,rfl,R1,bD,nO,λr H2 R2 f2=>?_⟩)))
  refine q1 e he wo qG r H2 (by unfold Bk.chg;rw[aA bq];exact R2) λx o hx nf=>?_
  exact f2 x o (old x o _ hx nf) λz=>nf (oz z)
 ·refine bj (cW bq) (rX rfl (rA e.ea c.E dx rfl aB C.bM C.e3 rfl (rX rfl ⟨e.shown,many,rfl,rX rfl ⟨e.ea,c.E,dx,rX rfl ⟨aB,C.bM,C.e3,(by show 4<1000;decide),?_⟩⟩⟩)))
  show Q .aE (upd (upd H e.ea _) e.ea (.ins c.E dx (cY e.oa many (mn e.shown many) (.ref e.ra))))
  rw[fb]
  exact q1 e he wo qG 0 _ (by unfold Bk.chg;rw[ax bq];exact ym R ok he bp) λx o hx nf=>old x o _ hx nf
theorem NP{dxb:ah}{u:HO}(R:Rep c H g B)(hb:H g.b=some u)(hk:kd u=3)(h1:B'.aU=B.aU)(h2:B'.aV=B.aV)(h3:B'.aG=B.aG):
  Rep c (upd H g.b (.ins c.B dxb (nh g.nb g.ds g.de B'.places B'.aY B'.last B'.bE))) g B':=by
 obtain⟨_,⟨d2,r2⟩,r3,r4,r5,r6,⟨kvs,r7,r8,r9,ra,rb⟩,rc⟩:=R
 have mj:∀b,B'.at b=B.at b:=λb=>by unfold Bk.at;rw[h1,h2]
 have k:∀{x:ah} {u' v:HO} (i:Nat),H x=some u'->kd u'=i->i≠3->upd H g.b v x=some u':=λ{x u' v} i hx hi n3=>by
  rw[aw (aN i 3 hx hb hi hk n3)]
  exact hx
 refine⟨⟨dxb,aB⟩,⟨d2,by rw[h3];exact k 4 r2 rfl (by decide)⟩,k 6 r3 rfl (by decide),λb=>by rw[mj];exact k 5 (r4 b) rfl (by decide),r5,r6,⟨kvs,k 6 r7 rfl (by decide),r8,by rw[h1,h2];exact r9,λb x hx=>ra b x (by rw[<-mj];exact hx),λn v hv=>?_⟩,λb x hx=>?_⟩
 ·obtain⟨b,x,hx,e⟩:=rb n v hv
  exact⟨b,x,by rw[mj];exact hx,e⟩
 ·rw[mj]at hx
  obtain⟨⟨dx,en⟩,⟨dy,od⟩,rk⟩:=rc b x hx
  exact⟨⟨dx,k 1 en rfl (by decide)⟩,⟨dy,k 2 od rfl (by decide)⟩,k 7 rk rfl (by decide)⟩
theorem aeJ:bc ["book"] ["book"] (aX Lx):=bw
inductive afq(nn:Addr)(c:Cs)(vs:List V)(H:Hp)(Q:VK)(E:XK):Prop
 |mk (g:Ga) (B:Bk) (_:vs= [.ref g.b]) (_:Rep c H g B) (_:(B.aY=true->∀x,E (.ref nn) x H)) (_:(B.aY=false->∀H',Rep c H' g {B with aY:=true}->(∀x,x≠g.b->H' x=H x)->Q .aE H'))
theorem abt(T:fP K mg bo nt nn be)(C:bR K mg c)(F:da K mg a c)(N:jl K mg c n):Kp P w K mg base 2 n.call ["book"] (afq nn c):=N.call.kp λfd G=>by
 obtain⟨cK,G1,b1,k1⟩:=Bd (P:=P) (w:=w) (base:=base) C F
 refine G.ri aeJ λ_ _ _ _ _ _ _ _ hr h=>?_
 obtain⟨g,B,rfl,R,q1,q2⟩:=h
 have b_:bB 1 _:=hr.mono (by decide)
 obtain⟨dxb,hb⟩:=id R.ob
 refine⟨_,az (bK (e8 (m8 (pv 0) C.bS F.tW G1 b_ b1 .nil cO)) (aD (lR rfl rfl T.Ak T.xQ (lT λ_ _ _ h=>h) (av aJ ay))) bZ)
  (aD (dW (pv 0) iA rfl)),?_⟩
 refine(rX rfl (rM g.b dxb rfl hb rfl ⟨g,B,rfl,R,rX rfl ?_⟩))
 cases hc:B.aY with
 |true=>exact bL ⟨kG,q1 hc⟩
 |false=>
  refine bF (rX rfl ⟨g.b,c.B,dxb,rX rfl ⟨hb,C.bS,C.b5,(by show 7<1000;decide),?_⟩⟩)
  exact q2 hc _ (NP (B':={B with aY:=true}) R hb rfl rfl rfl rfl) λx nx=>aw nx
end
end Fb
namespace L2
open PySem PySem.Spec PyProof.Rows
section
noncomputable def fz(a b c:Int):Int:=if b<a then(if c<b then c else b)else(if c<a then c else a)
theorem UW(hc:X.calm=true):jf X (.builtin "min") (λxs H Q=>∃i j k,xs= [.int i,.int j,.int k]/\Q (.int (fz i j k)) H):=by
 intro pins s σ H xs us Q I r h
 obtain⟨i,j,k,rfl,q⟩:=h
 cases r with
 |cons r1 r2=>
  obtain⟨u,w',rfl,⟨t,rfl⟩,⟨t',rfl⟩⟩:=vals2 r2
  obtain⟨t0,rfl⟩:=r1
  refine min_three_ints (I.ok.hd hc) λh' tk kk=>⟨_,H,I.kept kk,?_,q⟩
  unfold fz
  by_cases h1:j<i
  ·rw[aA h1,aA h1]
   by_cases h2:k<j
   ·rw[aA h2,aA h2];exact⟨_,rfl⟩
   ·rw[ax h2,ax h2];exact⟨_,rfl⟩
  ·rw[ax h1,ax h1]
   by_cases h2:k<i
   ·rw[aA h2,aA h2];exact⟨_,rfl⟩
   ·rw[ax h2,ax h2];exact⟨_,rfl⟩
end
end L2
namespace Fb
open PySem L2
theorem Oe(a b c:Int):fz a b c<=a/\fz a b c<=b/\fz a b c<=c:=by
 unfold fz
 split<;>split<;>omega
theorem Od{a b c:Int}(h1:1<=a)(h2:1<=b)(h3:1<=c):1<=fz a b c:=by
 unfold fz
 split<;>split<;>omega
noncomputable def Bk.aP(B:Bk)(e:Ent)(k:Int):Bk:=
 if e.left-k=0 then(B.mod e (e.left-k) e.shown).out (e.as (e.left-k) e.shown)else B.mod e (e.left-k) (cp e.shows (e.left-k))
theorem WJ(B:Bk)(e:Ent)(k:Int):(B.aP e k).aG=B.aG/\(B.aP e k).places=B.places/\(B.aP e k).aY=B.aY/\(B.aP e k).last=B.last/\(B.aP e k).bE=B.bE:=by
 unfold Bk.aP
 split
 ·obtain⟨a1,a2,a3,a4,a5⟩:=fG (B.mod e (e.left-k) e.shown) e.au (dj (e.as (e.left-k) e.shown) ((B.mod e (e.left-k) e.shown).at e.au))
  obtain⟨b1,b2,b3,b4,b5⟩:=fG B e.au (eL e.num (e.left-k) e.shown (B.at e.au))
  exact⟨a1.trans b1,a2.trans b2,a3.trans b3,a4.trans b4,a5.trans b5⟩
 ·exact fG B e.au _
theorem Bk.Ok.aP(ok:B.Ok)(e:Ent)(k:Int):(B.aP e k).Ok:=by
 unfold Bk.aP
 split
 ·exact(ok.mod e _ _).out _
 ·exact ok.mod e _ _
theorem Bk.Pos.aP(p:B.Pos)(ok:B.Ok)(he:e∈B.at e.au){k:Int}(h1:1<=k)(h2:k<=e.left):(B.aP e k).Pos:=by
 have pe:=p.ps _ e he
 unfold Bk.aP
 split
 ·exact⟨λb x hx=>p.ps b x (rG ok he _ _ hx).1⟩
 ·obtain⟨z1,z2⟩:=UH (shows:=e.shows) (left:=e.left-k) (by omega) pe.2.2.2.2.2
  exact p.mod e z1 z2 (by omega)
theorem x_(k:Int):(B.aP e k).at (!e.au)=B.at (!e.au):=by
 unfold Bk.aP
 split
 ·exact(ir _ _ _).trans (ir _ _ _)
 ·exact ir _ _ _
theorem R_(ok:B.Ok)(h:B.at b=e::r)(hb:e.au=b)(k:Int):(B.aP e k).at b=if e.left-k=0 then r else e.as (e.left-k) (cp e.shows (e.left-k))::r:=by
 subst hb
 have hn:=ok.nd e.au
 rw[h]at hn
 have hm:∀s,(B.mod e (e.left-k) s).at e.au=e.as (e.left-k) s::r:=λs=>by
  unfold Bk.mod
  rw[iw,h,U2 _ _ hn]
 unfold Bk.aP
 split
 ·exact Om (hm e.shown) rfl
 ·exact hm _
theorem V2(ok:B.Ok)(he:e∈B.at e.au){k:Int}{x:ah}(f:bI g (B.aP e k) x):bI g B x:=by
 unfold Bk.aP at f
 split at f
 ·exact oz (pR (e:=e.as (e.left-k) e.shown) ((ok.mod e (e.left-k) e.shown).so _) (jZ he (e.left-k) e.shown) f)
 ·exact oz f
section
variable {bW:ah} {a:c_} {n:fe}
structure fF where
 tU:Addr
 ur:Addr
 jY:Addr
 jN:Addr
 ux:Addr
 tT:Addr
 weigh:Addr
 uq:Addr
structure jK(K:W.Frag)(mg:Str->Option Value)(u:fF):Prop where
 tU:Dn K "lessen_in_place" "lessen_in_place" N2 u.tU ["book","entry","many"]
 DI:mg "lessen_in_place"=some (.ref u.tU)
 ur:Dn K "trade_at" "trade_at" Nw u.ur ["book","price","many"]
 Qc:mg "trade_at"=some (.ref u.ur)
 jY:Dn K "uncross" "uncross" Nv u.jY ["book"]
 vU:mg "uncross"=some (.ref u.jY)
 jN:Dn K "call_price" "call_price" MH u.jN ["book"]
 vM:mg "call_price"=some (.ref u.jN)
 ux:Dn K "weigh_prices" "weigh_prices" MC u.ux ["book"]
 Qe:mg "weigh_prices"=some (.ref u.ux)
 tT:Dn K "left_by_price" "left_by_price" N3 u.tT ["book","side"]
 DH:mg "left_by_price"=some (.ref u.tT)
 weigh:Dn K "weigh" "weigh" Oz u.weigh ["price","demand","supply","last_price"]
 Qd:mg "weigh"=some (.ref u.weigh)
 uq:Dn K "sum_by_price" "sum_by_price" LJ u.uq ["pairs"]
 DM:mg "sum_by_price"=some (.ref u.uq)
variable {u:fF}
theorem abZ(C:bR K mg c)(F:da K mg a c):Kp P w K mg base 1 a.pN ["self"] (LU c):=F.pN.kp λfd G=>Wg G C
theorem aeU:bc ["book","entry","many"] ["book","entry","many"] (aX N2):=bw
inductive afV(c:Cs)(vs:List V)(H:Hp)(Q:VK)(_:XK):Prop
 |mk (g:Ga) (B:Bk) (e:Ent) (k:Int) (_:vs= [.ref g.b,.ref e.ea,.int k]) (_:Rep c H g B) (_:B.Ok) (_:e∈B.at e.au) (_:∀H',Rep c H' g (B.aP e k)->(∃dx l s rk,H' e.ea=some (.ins c.E dx (cY e.oa l s rk)))->(∀x,x≠e.ea->x≠g.at e.au->x≠g.de->H' x=H x)->Q .aE H')
theorem abK(C:bR K mg c)(F:da K mg a c)(U:jK K mg u):Kp P w K mg base 3 u.tU ["book","entry","many"] (afV c):=U.tU.kp λfd G=>by
 obtain⟨cK,G1,b1,k1⟩:=yi (P:=P) (w:=w) (base:=base) C F
 obtain⟨dG,G2,b2,k2⟩:=abZ (P:=P) (w:=w) (base:=base) C F
 refine G.bT aeU λ_ _ _ _ H _ _ _ hr h=>?_
 obtain⟨g,B,e,k,rfl,R,ok,he,q⟩:=h
 have b_:bB 1 _:=hr.mono (by decide)
 have di:bB 2 _:=hr.mono (by decide)
 obtain⟨⟨dx,bp⟩,⟨dy,cR⟩,qP⟩:=R.en _ e he
 refine⟨_,az (rH (pv 1) (pv 2) BW)
  (aD (bK (bC cQ (aT (pv 1) rfl) aF (a9 _)) (aD (cP (d0 (pv 0) C.bS F.tX G1 di b1 .nil cO (av (pv 1) ay))))
   (aD (cP (m8 (pv 1) C.bM F.Fy G2 b_ b2 .nil cO))))),?_⟩
 refine⟨_,rfl,e.ea,c.E,dx,_,_,rfl,bp,C.bM,C.e2,rfl,_,rfl,_,_,rfl,rfl,dx,_,bp,(by show 4<1000;decide),?_⟩
 have R1:Rep c (upd H e.ea (.ins c.E dx (cY e.oa (e.left-k) e.shown (.ref e.ra)))) g (B.mod e (e.left-k) e.shown):=ym R ok he bp
 have bD:=ok.mod e (e.left-k) e.shown
 have nO:=jZ he (e.left-k) e.shown
 obtain⟨dxb,fm⟩:=id R1.ob
 obtain⟨kvs,En,_⟩:=id R1.de
 have jt:=R1.ls
 have pq:upd H e.ea (.ins c.E dx (cY e.oa (e.left-k) e.shown (.ref e.ra))) e.ea=some (.ins c.E dx (cY e.oa (e.left-k) e.shown (.ref e.ra))):=aB
 refine(rX rfl (rA e.ea c.E dx rfl aB C.bM C.e2 rfl ⟨rfl,rX rfl ?_⟩))
 by_cases h0:e.left-k=0
 ·have dd:decide (V.int (e.left-k)=V.int 0)=true:=by simp[h0]
  refine bY dd (rX rfl (rM g.b dxb rfl fm rfl (rX rfl ⟨g,_,e.as (e.left-k) e.shown,rfl,R1,bD,nO,λH2 R2 f2=>?_⟩)))
  refine q H2 (by unfold Bk.aP;rw[aA h0];exact R2) ⟨dx,_,_,_,(f2 e.ea (aN 1 5 pq (jt _)) (aN 1 6 pq En)).trans pq⟩ λx n1 n2 n3=>?_
  rw[f2 x n2 n3,aw n1]
 ·have dd:decide (V.int (e.left-k)=V.int 0)=false:=by simp[h0]
  refine bj dd (rX rfl ⟨e.ea,dx,rX rfl ⟨aB,rfl,e.ea,dx,e.oa,dy,e.left-k,e.shown,.ref e.ra,e.owner,aH e.au,some e.ar,e.many,e.shows,"rest",.int e.num,rfl,aB,?_,?_⟩⟩)
  ·rw[aw (aN 2 1 cR bp)]
   exact cR
  ·rw[fb]
   exact q _ (by unfold Bk.aP;rw[ax h0];exact ym R ok he bp) ⟨dx,_,_,_,aB⟩ λx n1 _ _=>aw n1
end
open PySem L2
noncomputable def fj(b:ai)(p:Int)(e:Ent):Prop:=if b=true then p<=e.ar else e.ar<=p
noncomputable instance(b:Bool)(p:Int)(e:Ent):Decidable (fj b p e):=by unfold fj;exact inferInstance
noncomputable def br(b:ai)(p:Int):aa Ent->Int
 | []=>0
 |e::r=>(if fj b p e then e.left else 0)+br b p r
noncomputable def ed:aa Ent->Int
 | []=>0
 |e::r=>e.left+ed r
theorem rL{b:ai}{p:Int}:∀{xs:aa Ent},(∀e∈xs,0<=e.left)->0<=br b p xs
 | [],_=>fM _
 |e::r,h=>by
  have h1:=rL (b:=b) (p:=p) (xs:=r) λx hx=>h x (cE _ hx)
  have h2:=h e bA
  unfold br
  split<;>omega
theorem ML{b:ai}{p:Int}:∀{xs:aa Ent},(∀e∈xs,0<=e.left)->br b p xs<=ed xs
 | [],_=>fM _
 |e::r,h=>by
  have h1:=ML (b:=b) (p:=p) (xs:=r) λx hx=>h x (cE _ hx)
  have h2:=h e bA
  unfold br ed
  split<;>omega
theorem Ov:∀{xs:aa Ent},(∀e∈xs,e.left<=10000)->ed xs<=10000*(xs.length:Int)
 | [],_=>by show(0:Int)<=10000*(0:Nat);omega
 |e::r,h=>by
  have h1:=Ov (xs:=r) λx hx=>h x (cE _ hx)
  have h2:=h e bA
  unfold ed
  rw[d5]
  omega
theorem rW(g:fj b p e):br b p (e::r)=e.left+br b p r:=by
 show(if fj b p e then e.left else 0)+br b p r=_
 rw[aA g]
theorem YL{x:Ent}(h:x.lt y)(hx:x.au=b)(hy:y.au=b)(g:fj b p y):fj b p x:=by
 unfold fj at g ⊢
 unfold Ent.lt klt Ent.k1 at h
 rw[hx,hy]at h
 cases b with
 |true=>
  have g:p<=y.ar:=g
  show p<=x.ar
  have h: -x.ar< -y.ar\/-x.ar= -y.ar/\x.place<y.place:=h
  omega
 |false=>
  have g:y.ar<=p:=g
  show x.ar<=p
  have h:x.ar<y.ar\/x.ar=y.ar/\x.place<y.place:=h
  omega
inductive eT(p:Int)(B0:Bk)(m0:Int):List (Int×Int×Int)->Bk->Int->Prop
 |nil:eT p B0 m0 [] B0 m0
 |snoc {ts:List (Int×Int×Int)} {B:Bk} {st:Int} {x y:Ent} {r t:List Ent}:eT p B0 m0 ts B st->0<st->B.aU=x::r->B.aV=y::t->
   eT p B0 m0 (ts++ [(x.num,y.num,fz x.left y.left st)]) (((B.aP x (fz x.left y.left st)).aP y (fz x.left y.left st)).fA p (fz x.left y.left st)) (st-fz x.left y.left st)
noncomputable def j9(xs:aa Ent)(k:Int):aa Ent:=match xs with
 | []=>[]
 |e::r=>if e.left-k=0 then r else e.as (e.left-k) (cp e.shows (e.left-k))::r
theorem ag0(k:Int):ed (j9 (e::r) k)=ed (e::r) -k:=by
 show ed (if e.left-k=0 then r else e.as (e.left-k) (cp e.shows (e.left-k))::r)=e.left+ed r-k
 split
 ·omega
 ·show e.left-k+ed r=_
  omega
theorem acy(ok:B.Ok){x:Ent}{t:aa Ent}(hx:B.aU=x::r)(hy:B.aV=y::t)(k:Int)(p:Int)(b:ai):(((B.aP x k).aP y k).fA p k).at b=j9 (B.at b) k:=by
 have bx:x.au=true:=ok.sd true x (by show x∈B.aU;rw[hx];exact bA)
 have nA:y.au=false:=ok.sd false y (by show y∈B.aV;rw[hy];exact bA)
 have h1:(B.aP x k).at true=j9 B.aU k:=by rw[R_ (b:=true) ok hx bx,hx];rfl
 have h2:(B.aP x k).at false=B.aV:=by
  have:=x_ (B:=B) (e:=x) k
  rw[bx]at this
  exact this
 show((B.aP x k).aP y k).at b=_
 cases b with
 |true=>
  have:=x_ (B:=B.aP x k) (e:=y) k
  rw[nA]at this
  exact this.trans h1
 |false=>
  have:=R_ (b:=false) (ok.aP x k) (h2.trans hy) nA k
  rw[this]
  show _=j9 B.aV k
  rw[hy]
  rfl
theorem agp{k:Int}(h:z∈j9 xs k):∃y∈xs,y.num=z.num/\y.ar=z.ar/\y.owner=z.owner/\y.au=z.au:=by
 cases xs with
 |nil=>exact absurd h (by simp[j9])
 |cons e r=>
  have h:z∈(if e.left-k=0 then r else e.as (e.left-k) (cp e.shows (e.left-k))::r):=h
  split at h
  ·exact⟨z,cE _ h,rfl,rfl,rfl,rfl⟩
  ·rcases hZ.mp h with rfl|h
   ·exact⟨e,bA,rfl,rfl,rfl,rfl⟩
   ·exact⟨z,cE _ h,rfl,rfl,rfl,rfl⟩
theorem VI(xs:aa Ent)(k:Int):(j9 xs k).length<=xs.length:=by
 cases xs with
 |nil=>exact bu _
 |cons e r=>
  show(if e.left-k=0 then r else e.as (e.left-k) (cp e.shows (e.left-k))::r).length<=_
  split
  ·exact kM _
  ·exact bu _
noncomputable def vf(b:ai)(xS xs:aa Ent)(k:Int):Prop:=∀p e r,xs=e::r->fj b p e->br b p xS=k+br b p xs
theorem vf.step{xS:aa Ent}{k j:Int}(so:eN (e::r))(sd:∀z∈e::r,z.au=b)(h:vf b xS (e::r) k):vf b xS (j9 (e::r) j) (k+j):=by
 intro p z t hz g
 have qX:(if e.left-j=0 then r else e.as (e.left-j) (cp e.shows (e.left-j))::r)=z::t:=hz
 by_cases h0:e.left-j=0
 ·rw[aA h0]at qX
  have Zv:e.lt z:=(List.pairwise_cons.mp so).1 z (by rw[qX];exact bA)
  have ge:fj b p e:=YL Zv (sd e bA) (sd z (cE _ (by rw[qX];exact bA))) g
  have h1:=h p e r rfl ge
  rw[rW ge]at h1
  have:j9 (e::r) j=r:=aA h0
  rw[this]
  omega
 ·rw[ax h0]at qX
  injection qX with q1 q2
  have ge:fj b p e:=by rw[<-q1]at g;exact g
  have h1:=h p e r rfl ge
  rw[rW ge]at h1
  have:j9 (e::r) j=e.as (e.left-j) (cp e.shows (e.left-j))::r:=ax h0
  rw[this]
  have g':fj b p (e.as (e.left-j) (cp e.shows (e.left-j))):=ge
  rw[rW g']
  show br b p xS=k+j+(e.left-j+br b p r)
  omega
structure Xg(B0:Bk)(m0:Int)(ts:List (Int×Int×Int))(B:Bk)(st:Int):Prop where
 ok:B.Ok
 ps:B.Pos
 s0:0<=st
 s1:st<=m0
 tt:∀b,ed (B.at b)=ed (B0.at b) - (m0-st)
 ea:∀b,vf b (B0.at b) (B.at b) (m0-st)
 ln:(ts.length:Int)<=m0-st
 ca:B.aG=B0.aG
 cl:B.aY=B0.aY
 tl:B.aU.length+B.aV.length<=B0.aU.length+B0.aV.length
 nm:∀b,∀x∈B.at b,∃y∈B0.at b,y.num=x.num/\y.ar=x.ar/\y.owner=x.owner
theorem eT.good{B0:Bk}(xt:B0.Ok)(FU:B0.Pos)(h0:0<=m0){st:Int}(h:eT p B0 m0 ts B st):Xg B0 m0 ts B st:=by
 induction h with
 |nil=>exact⟨xt,FU,h0,fM _,λb=>by omega,λb p e r _ _=>by omega,by show(0:Int)<=_;omega,rfl,rfl,bu _,λb x hx=>⟨x,hx,rfl,rfl,rfl⟩⟩
 | @snoc ts B st x y r t _ hs hx hy ih=>
  obtain⟨ok,ps,s0,s1,tt,ea,ln,ca,cl,tl,nm⟩:=ih
  have mx:x∈B.at true:=by show x∈B.aU;rw[hx];exact bA
  have my:y∈B.at false:=by show y∈B.aV;rw[hy];exact bA
  have bx:=ok.sd true x mx
  have nA:=ok.sd false y my
  have px:=ps.ps _ x mx
  have py:=ps.ps _ y my
  obtain⟨k1,k2,k3⟩:=Oe x.left y.left st
  have k0:1<=fz x.left y.left st:=Od (by omega) (by omega) (by omega)
  have mj:=acy ok hx hy (fz x.left y.left st) p
  generalize fz x.left y.left st=k at*
  have t4:y∈(B.aP x k).at y.au:=by
   rw[nA]
   have:=x_ (B:=B) (e:=x) k
   rw[bx]at this
   rw[show(B.aP x k).at false=B.at false from this]
   exact my
  have he:∀b,∃e l,B.at b=e::l:=λb=>by
   cases b with
   |true=>exact⟨x,r,hx⟩
   |false=>exact⟨y,t,hy⟩
  obtain⟨a1,_,a3,_⟩:=WJ B x k
  obtain⟨b1,_,b3,_⟩:=WJ (B.aP x k) y k
  refine⟨BN ((ok.aP x k).aP y k) _ _,N9 ((ps.aP ok (by rw[bx];exact mx) k0 k1).aP (ok.aP x k) t4 k0 k2) _ _,by omega,by omega,λb=>?_,λb=>?_,?_,(b1.trans a1).trans ca,(b3.trans a3).trans cl,?_,λb z hz=>?_⟩
  ·obtain⟨e,l,q⟩:=he b
   rw[mj,q,ag0,<-q,tt]
   omega
  ·obtain⟨e,l,q⟩:=he b
   have h1:=ea b
   rw[q]at h1
   have h2:vf b (B0.at b) (j9 (e::l) k) (m0-st+k):=h1.step (by rw[<-q];exact ok.so b) (by rw[<-q];exact ok.sd b)
   rw[mj,q]
   rw[show m0- (st-k)=m0-st+k by omega]
   exact h2
  ·rw[gF]
   show((ts.length+1:Nat):Int)<=_
   omega
  ·have h1:(((B.aP x k).aP y k).fA p k).aU.length<=B.aU.length:=by
    have:=VI B.aU k
    rw[show(((B.aP x k).aP y k).fA p k).aU=j9 B.aU k from mj true]
    exact this
   have h2:(((B.aP x k).aP y k).fA p k).aV.length<=B.aV.length:=by
    have:=VI B.aV k
    rw[show(((B.aP x k).aP y k).fA p k).aV=j9 B.aV k from mj false]
    exact this
   omega
  ·rw[mj]at hz
   obtain⟨z1,lA,q1,q2,q3,_⟩:=agp hz
   obtain⟨z2,hz2,w1,w2,w3⟩:=nm b z1 lA
   exact⟨z2,hz2,w1.trans q1,w2.trans q2,w3.trans q3⟩
open PySem L2
noncomputable def oZ(p:Int)(H:Hp):aa V->aa (Int×Int×Int)->Prop:=Paired λv t=>∃a,v= .ref a/\H a=some (.tup [.str "trade",.int t.1,.int t.2.1,.int p,.int t.2.2])
theorem By{k:Int}(h:k<=ed xs)(hk:0<k):∃e r,xs=e::r:=by
 cases xs with
 |nil=>
  have h:k<=0:=h
  omega
 |cons e r=>exact⟨e,r,rfl⟩
section
variable {bW:ah} {a:c_} {n:fe} {u:fF}
theorem rq:bc ["book","price","many","trades","still","buyer","seller","traded"] ["book","price","many"] (aX Nw):=bw
inductive agg(c:Cs)(vs:List V)(H:Hp)(Q:VK)(_:XK):Prop
 |mk (g:Ga) (B:Bk) (p many:Int) (_:vs= [.ref g.b,.int p,.int many]) (_:Rep c H g B) (_:B.Ok) (_:B.Pos) (_:0<=many) (_:(∀b,many<=ed (B.at b))) (_:many<=5000000) (_:∀(ts:List (Int×Int×Int)) (B':Bk) (l:Addr) (tv:List V) (H':Hp),eT p B many ts B' 0->Rep c H' g B'->H' l=some (.lst tv)->oZ p H' tv ts->(∀x o,H x=some o->¬bI g B x->H' x=some o)->(∀x,bI g B' x->bI g B x)->H l=none->Q (.ref l) H')
inductive Xf(c:Cs)(H:Hp)(g:Ga)(B:Bk)(p many:Int)(l:Addr)(μ:Nat)(σ:St)(H':Hp):Prop
 |mk (ts:List (Int×Int×Int)) (B1:Bk) (st:Int) (tv:List V) (z1 z2 z3:Option V) (_:σ= [some (.ref g.b),some (.int p),some (.int many),some (.ref l),some (.int st),z1,z2,z3]) (_:eT p B many ts B1 st) (_:Rep c H' g B1) (_:H' l=some (.lst tv)) (_:oZ p H' tv ts) (_:∀x o,H x=some o->¬bI g B x->H' x=some o) (_:∀x,bI g B1 x->bI g B x) (_:μ=st.toNat)
theorem ab1(C:bR K mg c)(F:da K mg a c)(U:jK K mg u):Kp P w K mg base 4 u.ur ["book","price","many"] (agg c):=U.ur.kp λfd G=>by
 obtain⟨cK,G1,b1,k1⟩:=RK (P:=P) (w:=w) (base:=base) C F
 obtain⟨dG,G2,b2,k2⟩:=abK (P:=P) (w:=w) (base:=base) C F U
 obtain⟨gY,G3,b3,k3⟩:=WQ (P:=P) (w:=w) (base:=base) C F
 refine G.bT rq λ_ _ _ _ H _ _ _ hr h=>?_
 obtain⟨g,B,p,many,rfl,R,ok,ps,tK,QR,qH,q⟩:=h
 have b_:bB 1 _:=hr.mono (by decide)
 refine⟨_,az (aZ 3 rq.nd (fW ay))
  (az (aZ 4 rq.nd (pv 2))
  (az (yc jG (bC oP (pv 4) aF (a9 _))
   (az (aZ 5 rq.nd (d0 (pv 0) C.bS F.Ai G1 b_ b1 .nil cO (av aJ ay)))
   (az (aZ 6 rq.nd (d0 (pv 0) C.bS F.Ai G1 b_ b1 .nil cO (av aJ ay)))
   (az (aZ 7 rq.nd (c9 (UW rfl) (by rfl) C.min (by decide+kernel) (av (aT (pv 5) rfl) (av (aT (pv 6) rfl) (av (pv 4) ay)))))
   (az (cP (bG G2 hr U.DI k2 b2 (av (pv 0) (av (pv 5) (av (pv 7) ay)))))
   (az (cP (bG G2 hr U.DI k2 b2 (av (pv 0) (av (pv 6) (av (pv 7) ay)))))
   (az (cP (d0 (pv 0) C.bS F.Fx G3 b_ b3 .nil cO (av (pv 1) (av (pv 7) ay))))
   (az (BP (i:=4) rq.nd rfl (Or.inl rfl) (pv 7) RH)
   (aD (cP (lX l8 sF sG rJ (pv 3) (av (eM (av aJ (av (aT (aT (pv 5) rfl) rfl) (av (aT (aT (pv 6) rfl) rfl) (av (pv 1) (av (pv 7) ay)))))) ay)))))))))))
  )
  (aD (a8 (pv 3))))),?_⟩
 refine⟨(by rw[a7];show 0<=16777216;decide),λl hl=>?_⟩
 have s1:aL H (upd H l (.lst [])):=aQ hl
 have pI:¬bI g B l:=λf=>by
  obtain⟨v,hv⟩:=rK R f
  rw[hl]at hv
  cases hv
 refine(rX rfl ?_)
 refine⟨Xf c H g B p many l,
  ⟨_,[],B,many,[],none,none,none,rfl,.nil,aL.rep s1 R,aB,.nil,λx o hx _=>s1 x o hx,λ_ f=>f,rfl⟩,?_⟩
 rintro μ σ H' ⟨ts,B1,st,tv,z1,z2,z3,rfl,met,R1,l1,L9,f1,ic,rfl⟩
 obtain⟨bD,jw,t0,t1,ht,_,qF,_⟩:=met.good ok ps tK
 refine(rX rfl (r2 rfl rfl (rX rfl ?_)))
 by_cases gn:0<st
 rotate_left
 ·refine bj (cW gn) (rX rfl ?_)
  have e0:st=0:=by omega
  subst e0
  exact q ts B1 l tv H' met R1 l1 L9 f1 ic hl
 refine bY (bO gn) ⟨_,λ_ _ h=>h,?_⟩
 obtain⟨x,r,hx⟩:=By (xs:=B1.aU) (k:=st) (by have:=ht true;have:=QR true;show st<=ed (B1.at true);omega) gn
 obtain⟨y,t,hy⟩:=By (xs:=B1.aV) (k:=st) (by have:=ht false;have:=QR false;show st<=ed (B1.at false);omega) gn
 have mx:x∈B1.at true:=by show x∈B1.aU;rw[hx];exact bA
 have my:y∈B1.at false:=by show y∈B1.aV;rw[hy];exact bA
 have bx:=bD.sd true x mx
 have nA:=bD.sd false y my
 have ex:=R1.en true x mx
 have ey:=R1.en false y my
 have xq:x.ea≠y.ea:=λz=>bD.nx x mx y my (jk.y_ ex ey z)
 obtain⟨⟨dx,E9⟩,⟨kW,hxo⟩,_⟩:=ex
 obtain⟨⟨dy,nY⟩,⟨X7,hyo⟩,_⟩:=ey
 obtain⟨dxb,hb⟩:=id R1.ob
 obtain⟨kvs,cw,_⟩:=id R1.de
 have px:=jw.ps _ x mx
 have py:=jw.ps _ y my
 refine(rX rfl (rM g.b dxb rfl hb rfl ⟨g,B1,true,rfl,R1,?_⟩))
 rw[show yu (B1.at true)= .ref x.ea by show yu B1.aU=_;rw[hx];rfl]
 refine(rX rfl (rM g.b dxb rfl hb rfl ⟨g,B1,false,rfl,R1,?_⟩))
 rw[show yu (B1.at false)= .ref y.ea by show yu B1.aV=_;rw[hy];rfl]
 refine(rX rfl (rA x.ea c.E dx rfl E9 C.bM C.e2 rfl (rX rfl (rA y.ea c.E dy rfl nY C.bM C.e2 rfl (rX rfl ⟨x.left,y.left,st,rfl,?_⟩)))))
 have xf:=eT.snoc met gn hx hy
 obtain⟨k1',k2',k3'⟩:=Oe x.left y.left st
 have k0:1<=fz x.left y.left st:=Od (by omega) (by omega) (by omega)
 generalize fz x.left y.left st=k at*
 refine(rX rfl (rX rfl (rX rfl ⟨g,B1,x,k,rfl,R1,bD,by rw[bx];exact mx,λH2 R2 ⟨pb,lx',sx',xH,kA⟩ f2=>?_⟩)))
 rw[bx]at f2
 have t4:y∈(B1.aP x k).at y.au:=by
  rw[nA]
  have:=x_ (B:=B1) (e:=x) k
  rw[bx]at this
  rw[show(B1.aP x k).at false=B1.at false from this]
  exact my
 have c2:∀{z:ah} {v:HO} (i:Nat),H' z=some v->kd v=i->i≠1->i≠5->i≠6->H2 z=some v:=λ{z v} i hz hi n1 n5 n6=>by
  rw[f2 z (aN i 1 hz E9 hi rfl n1) (aN i 5 hz (R1.ls true) hi rfl n5) (aN i 6 hz cw hi rfl n6)]
  exact hz
 have ju:H2 l=some (.lst tv):=by
  rw[f2 l (aN 5 1 l1 E9) (λz=>pI (ic _ (by rw[z];exact pZ g B1 true))) (aN 5 6 l1 cw)]
  exact l1
 have Rq:H2 y.ea=some (.ins c.E dy (cY y.oa y.left y.shown (.ref y.ra))):=by
  rw[f2 y.ea xq.symm (aN 1 5 nY (R1.ls true)) (aN 1 6 nY cw)]
  exact nY
 refine(rX rfl (rX rfl (rX rfl ⟨g,B1.aP x k,y,k,rfl,R2,bD.aP x k,t4,λH3 R3 ⟨Dr,ly',sy',ry',wV⟩ f3=>?_⟩)))
 rw[nA]at f3
 obtain⟨akm,Eo,_⟩:=id R2.de
 have c3:∀{z:ah} {v:HO} (i:Nat),H2 z=some v->kd v=i->i≠1->i≠5->i≠6->H3 z=some v:=λ{z v} i hz hi n1 n5 n6=>by
  rw[f3 z (aN i 1 hz Rq hi rfl n1) (aN i 5 hz (R2.ls false) hi rfl n5) (aN i 6 hz Eo hi rfl n6)]
  exact hz
 have QK:H3 l=some (.lst tv):=by
  rw[f3 l (aN 5 1 ju Rq) (λz=>pI (ic _ (by rw[z];exact pZ g B1 false))) (aN 5 6 ju Eo)]
  exact ju
 have hx3:H3 x.ea=some (.ins c.E pb (cY x.oa lx' sx' xH)):=by
  rw[f3 x.ea xq (aN 1 5 kA (R2.ls false)) (aN 1 6 kA Eo)]
  exact kA
 obtain⟨X4,zo⟩:=id R3.ob
 refine(rX rfl (rM g.b X4 rfl zo rfl (rX rfl (rX rfl ⟨g,_,p,k,rfl,R3,λH4 R4 f4=>?_⟩))))
 have c4:∀{z:ah} {v:HO} (i:Nat),H3 z=some v->kd v=i->i≠3->H4 z=some v:=λ{z v} i hz hi n3=>by
  rw[f4 z (aN i 3 hz zo hi rfl n3)]
  exact hz
 have qE:=c4 5 QK rfl (by decide)
 have hx4:=c4 1 hx3 rfl (by decide)
 have hy4:=c4 1 wV rfl (by decide)
 have aa2:=c4 2 (c3 2 (c2 2 hxo rfl (by decide) (by decide) (by decide)) rfl (by decide) (by decide) (by decide)) rfl (by decide)
 have aa6:=c4 2 (c3 2 (c2 2 hyo rfl (by decide) (by decide) (by decide)) rfl (by decide) (by decide) (by decide)) rfl (by decide)
 refine(rX rfl (rX rfl (r2 rfl rfl ?_)))
 refine(rX rfl ⟨.inl ⟨rfl,_,aK.of qE⟩,rX rfl (rA x.ea c.E pb rfl hx4 C.bM C.e1 rfl (rA x.oa c.O kW rfl aa2 C.cN C.o7 rfl (rX rfl (rA y.ea c.E Dr rfl hy4 C.bM C.e1 rfl (rA y.oa c.O X7 rfl aa6 C.cN C.o7 rfl (rX rfl (rX rfl ⟨(by rw[a7];show 5<=16777216;decide),λtp mJ=>?_⟩)))))))⟩)
 have s5:aL H4 (upd H4 tp (.tup [.str "trade",.int x.num,.int y.num,.int p,.int k])):=aQ mJ
 have hlen:tv.length<sizeLine:=by
  have:=Paired.len L9
  rw[a7]
  omega
 refine⟨l,tv,.ref tp,rfl,rfl,s5 _ _ qE,hlen,?_⟩
 have kY:∀z,bI g (((B1.aP x k).aP y k).fA p k) z->bI g B1 z:=λz f=>V2 bD (by rw[bx];exact mx) (V2 (bD.aP x k) t4 f)
 have R5:Rep c (upd H4 tp (.tup [.str "trade",.int x.num,.int y.num,.int p,.int k])) g (((B1.aP x k).aP y k).fA p k):=aL.rep s5 R4
 have R6:Rep c (upd (upd H4 tp (.tup [.str "trade",.int x.num,.int y.num,.int p,.int k])) l (.lst (tv++ [.ref tp]))) g (((B1.aP x k).aP y k).fA p k):=NO R5 (s5 _ _ qE) λf=>pI (ic _ (kY _ f))
 have c6:∀{z:ah} {v:HO},H4 z=some v->kd v=7->upd (upd H4 tp (.tup [.str "trade",.int x.num,.int y.num,.int p,.int k])) l (.lst (tv++ [.ref tp])) z=some v:=λ{z v} hz hi=>by
  rw[aw (aN 7 5 hz qE hi rfl (by decide))]
  exact s5 _ _ hz
 refine⟨(st-k).toNat,by omega,ts++ [(x.num,y.num,k)],_,st-k,tv++ [.ref tp],_,_,_,rfl,xf,R6,aB,Paired.snoc ⟨tp,rfl,?_⟩ (Paired.eJ L9 λv e ⟨z,h1,h2⟩=>⟨z,h1,c6 (c4 7 (c3 7 (c2 7 h2 rfl (by decide) (by decide) (by decide)) rfl (by decide) (by decide) (by decide)) rfl (by decide)) rfl⟩),λz o hz nf=>?_,λz f=>ic z (kY z f),rfl⟩
 ·rw[aw (a6 qE mJ).symm]
  exact aB
 ·have h1:=f1 z o hz nf
  have n1:¬bI g B1 z:=λf=>nf (ic z f)
  have zx:z≠x.ea:=λe=>n1 (.inr (.inr (.inr (.inr (.inr ⟨true,x,mx,e⟩)))))
  have zy:z≠y.ea:=λe=>n1 (.inr (.inr (.inr (.inr (.inr ⟨false,y,my,e⟩)))))
  have zd:z≠g.de:=λe=>n1 (.inr (.inr (.inr (.inr (.inl e)))))
  have za:∀b,z≠g.at b:=λb e=>n1 (by rw[e];exact pZ g B1 b)
  have zb:z≠g.b:=λe=>n1 (.inl e)
  have h4:H4 z=some o:=by rw[f4 z zb,f3 z zy (za false) zd,f2 z zx (za true) zd];exact h1
  rw[aw (a6 hz hl)]
  exact s5 _ _ h4
end
open PySem L2
noncomputable def dk:aa (Int×Int)->Int->Int->aa (Int×Int)
 | [],p,k=>[(p,k)]
 |t::r,p,k=>if t.1=p then(t.1,t.2+k)::r else t::dk r p k
noncomputable def cS(ps:aa (Int×Int)):aa (Int×Int):=ps.foldl (λT t=>dk T t.1 t.2) []
noncomputable def bJ(pr:Int->ai):aa (Int×Int)->Int
 | []=>0
 |t::r=>(if pr t.1=true then t.2 else 0)+bJ pr r
noncomputable def ie:aa (Int×Int)->Int->ae Int
 | [],_=>none
 |t::r,p=>if t.1=p then some t.2 else ie r p
noncomputable def fT(t:Int×Int):Key×V:=(Sum.inl t.1,.int t.2)
theorem Vl(pr:Int->ai)(p k:Int):∀T:aa (Int×Int),bJ pr (dk T p k)=bJ pr T+(if pr p=true then k else 0)
 | []=>by
  show(if pr p=true then k else 0)+0=0+_
  omega
 |t::r=>by
  unfold dk
  by_cases h:t.1=p
  ·rw[aA h]
   show(if pr t.1=true then t.2+k else 0)+bJ pr r=(if pr t.1=true then t.2 else 0)+bJ pr r+_
   rw[h]
   split<;>omega
  ·rw[ax h]
   show(if pr t.1=true then t.2 else 0)+bJ pr (dk r p k)=(if pr t.1=true then t.2 else 0)+bJ pr r+_
   rw[Vl pr p k r]
   omega
theorem UG(pr:Int->ai):∀(ps T:aa (Int×Int)),bJ pr (ps.foldl (λT t=>dk T t.1 t.2) T)=bJ pr T+bJ pr ps
 | [],T=>by
  show bJ pr T=bJ pr T+0
  omega
 |t::r,T=>by
  show bJ pr (r.foldl (λT t=>dk T t.1 t.2) (dk T t.1 t.2))=bJ pr T+((if pr t.1=true then t.2 else 0)+bJ pr r)
  rw[UG pr r,Vl]
  omega
theorem MM(pr:Int->ai)(ps:aa (Int×Int)):bJ pr (cS ps)=bJ pr ps:=by
 unfold cS
 rw[UG]
 show 0+_=_
 omega
theorem Np(p k q:Int):∀T:aa (Int×Int),q∈(dk T p k).map (·.1)↔q=p\/q∈T.map (·.1)
 | []=>by simp[dk]
 |t::r=>by
  unfold dk
  by_cases h:t.1=p
  ·rw[aA h]
   show q∈t.1::r.map (·.1)↔q=p\/q∈t.1::r.map (·.1)
   rw[hZ,h]
   constructor
   ·intro z
    exact .inr z
   ·rintro(z|z)
    ·exact .inl z
    ·exact z
  ·rw[ax h]
   show q∈t.1::(dk r p k).map (·.1)↔q=p\/q∈t.1::r.map (·.1)
   rw[hZ,Np p k q r,hZ]
   constructor
   ·rintro(z|z|z)
    ·exact .inr (.inl z)
    ·exact .inl z
    ·exact .inr (.inr z)
   ·rintro(z|z|z)
    ·exact .inr (.inl z)
    ·exact .inl z
    ·exact .inr (.inr z)
theorem SD(p k:Int):∀{T:aa (Int×Int)},(T.map (·.1)).Nodup->((dk T p k).map (·.1)).Nodup
 | [],_=>by simp[dk]
 |t::r,h=>by
  have h:(t.1::r.map (·.1)).Nodup:=h
  obtain⟨h1,h2⟩:=List.nodup_cons.mp h
  unfold dk
  by_cases e:t.1=p
  ·rw[aA e]
   exact h
  ·rw[ax e]
   show(t.1::(dk r p k).map (·.1)).Nodup
   refine List.nodup_cons.mpr ⟨λz=>?_,SD p k h2⟩
   rcases(Np p k t.1 r).mp z with z|z
   ·exact e z
   ·exact h1 z
theorem V7:∀(ps:aa (Int×Int)) {T:aa (Int×Int)},(T.map (·.1)).Nodup->((ps.foldl (λT t=>dk T t.1 t.2) T).map (·.1)).Nodup
 | [],_,h=>h
 |t::r,_,h=>V7 r (SD t.1 t.2 h)
theorem yp(ps:aa (Int×Int)):((cS ps).map (·.1)).Nodup:=V7 ps sC
theorem w5(q:Int):∀(ps T:aa (Int×Int)),q∈(ps.foldl (λT t=>dk T t.1 t.2) T).map (·.1)↔q∈T.map (·.1)\/q∈ps.map (·.1)
 | [],T=>by simp
 |t::r,T=>by
  show q∈(r.foldl (λT t=>dk T t.1 t.2) (dk T t.1 t.2)).map (·.1)↔q∈T.map (·.1)\/q∈t.1::r.map (·.1)
  rw[w5 q r,Np,hZ]
  constructor
  ·rintro((z|z) |z)
   ·exact .inr (.inl z)
   ·exact .inl z
   ·exact .inr (.inr z)
  ·rintro(z|z|z)
   ·exact .inl (.inr z)
   ·exact .inl (.inl z)
   ·exact .inr z
theorem ya(q:Int)(ps:aa (Int×Int)):q∈(cS ps).map (·.1)↔q∈ps.map (·.1):=by
 unfold cS
 rw[w5]
 simp
theorem WL(p k:Int):∀T:aa (Int×Int),(dk T p k).length<=T.length+1
 | []=>bu _
 |t::r=>by
  unfold dk
  split
  ·exact kM _
  ·exact Nat.succ_le_succ (WL p k r)
theorem VW:∀(ps T:aa (Int×Int)),(ps.foldl (λT t=>dk T t.1 t.2) T).length<=T.length+ps.length
 | [],T=>bu _
 |t::r,T=>by
  have h1:=VW r (dk T t.1 t.2)
  have h2:=WL t.1 t.2 T
  show(r.foldl (λT t=>dk T t.1 t.2) (dk T t.1 t.2)).length<=T.length+(r.length+1)
  omega
theorem Nm(ps:aa (Int×Int)):(cS ps).length<=ps.length:=by
 have:=VW ps []
 unfold cS
 have e:([]:aa (Int×Int)).length=0:=rfl
 omega
theorem Wu(q:Int):∀{T:aa (Int×Int)},(T.map (·.1)).Nodup->(ie T q).getD 0=bJ (λp=>decide (p=q)) T
 | [],_=>rfl
 |t::r,h=>by
  have h:(t.1::r.map (·.1)).Nodup:=h
  obtain⟨h1,h2⟩:=List.nodup_cons.mp h
  unfold ie bJ
  by_cases e:t.1=q
  ·rw[aA e,aA (bO e)]
   have z:∀l:aa (Int×Int),q∉l.map (·.1)->bJ (λp=>decide (p=q)) l=0:=λl=>by
    induction l with
    |nil=>intro _;rfl
    |cons x y ih=>
     intro hx
     have hx:q∉x.1::y.map (·.1):=hx
     unfold bJ
     rw[ih λw=>hx (cE _ w),ax (λw=>hx (by rw[<-eB w];exact bA))]
     rfl
   rw[z r (by rw[<-e];exact h1)]
   show t.2=t.2+0
   omega
  ·rw[ax e,ax (λw=>e (eB w)),Wu q h2]
   omega
theorem Mw{pr S8:Int->ai}:∀{T:aa (Int×Int)},(∀t∈T,pr t.1=S8 t.1)->bJ pr T=bJ S8 T
 | [],_=>rfl
 |t::r,h=>by
  unfold bJ
  rw[h t bA,Mw λx hx=>h x (cE _ hx)]
theorem UE{l:aa Int}(h:q∉l):∀T:aa (Int×Int),bJ (λp=>decide (p∈l++ [q])) T=bJ (λp=>decide (p∈l)) T+bJ (λp=>decide (p=q)) T
 | []=>rfl
 |t::r=>by
  unfold bJ
  rw[UE h r]
  by_cases e:t.1=q
  ·rw[aA (by simp[e]),ax (by simp[e,h]),aA (by simp[e])]
   omega
  ·by_cases e2:t.1∈l
   ·rw[aA (by simp[e2]),aA (by simp[e2]),ax (by simp[e])]
    omega
   ·rw[ax (by simp[e,e2]),ax (by simp[e2]),ax (by simp[e])]
    omega
theorem Vk(pr:Int->ai):∀T:aa (Int×Int),bJ (λp=>!pr p) T=bJ (λ_=>true) T-bJ pr T
 | []=>rfl
 |t::r=>by
  unfold bJ
  rw[Vk pr r]
  cases pr t.1<;>simp<;>omega
theorem Ou(q:Int):∀T:aa (Int×Int),bQ (T.map fT) (Sum.inl q)=(ie T q).map V.int
 | []=>rfl
 |t::r=>by
  unfold ie
  by_cases e:t.1=q
  ·rw[aA e,dO,jC (by show(Sum.inl t.1:Key)=Sum.inl q;rw[e])]
   rfl
  ·rw[ax e,dO,jb (by show ¬(Sum.inl t.1:Key)=Sum.inl q;exact λz=>e (qh z)),Ou q r]
theorem ad7{x:Key×V}{xs:aa (Key×V)}{k:Key}(h:¬x.1=k):putK (x::xs) k v=x::putK xs k v:=by
 unfold putK
 rw[sv,cW h,Bool.false_or]
 split
 ·rw[dO,ax h]
 ·rfl
theorem S_(p k:Int):∀{T:aa (Int×Int)},(T.map (·.1)).Nodup->putK (T.map fT) (Sum.inl p) (.int ((ie T p).getD 0+k))=(dk T p k).map fT
 | [],_=>by
  show [(Sum.inl p,V.int (0+k))]= [fT (p,k)]
  rw[Int.zero_add]
  rfl
 |t::r,h=>by
  have h:(t.1::r.map (·.1)).Nodup:=h
  obtain⟨h1,h2⟩:=List.nodup_cons.mp h
  unfold ie dk
  by_cases e:t.1=p
  ·rw[aA e,aA e]
   show putK (fT t::r.map fT) (Sum.inl p) (.int (t.2+k))=fT (t.1,t.2+k)::r.map fT
   unfold putK
   have e1:(fT t).1=Sum.inl p:=by show(Sum.inl t.1:Key)=Sum.inl p;rw[e]
   rw[sv,bO e1,Bool.true_or,aA rfl,dO,aA e1]
   congr 1
   have z:∀l:aa (Int×Int),p∉l.map (·.1)->(l.map fT).map (λkv=>if kv.1=Sum.inl p then(kv.1,V.int (t.2+k))else kv)=l.map fT:=λl=>by
    induction l with
    |nil=>intro _;rfl
    |cons x y ih=>
     intro hx
     have hx:p∉x.1::y.map (·.1):=hx
     rw[dO,dO,ih λw=>hx (cE _ w),ax]
     intro w
     have w:(Sum.inl x.1:Key)=Sum.inl p:=w
     exact hx (by rw[<-qh w];exact bA)
   exact z r (by rw[<-e];exact h1)
  ·rw[ax e,ax e]
   show putK (fT t::r.map fT) (Sum.inl p) _=fT t::(dk r p k).map fT
   rw[ad7 (by show ¬(Sum.inl t.1:Key)=Sum.inl p;exact λz=>e (qh z)),S_ p k h2]
end Fb
namespace L2
open PySem PySem.Spec PyProof.Rows
theorem zi3{n:Nat}{xs:aa V}{g:TG}{te:TE}{Q:VK}(Pv:Nat->aa V->Hp->Prop)(h0:Pv 0 [] H)(hl:∀i ys H,i<=xs.length->Pv i ys H->aK K H a xs/\ys.length<=sizeLine)
  (hs:∀(i:Nat) (x:V) ys H,xs[i]?=some x->Pv i ys H->∀R1:V->Hp->Prop,(∀y H4,Pv (i+1) (ys++ [y]) H4->R1 y H4)->g x (List.replicate n none) H λσ2 H2=>te σ2 H2 R1)
  (hg:∀x σ H (R R':St->Hp->Prop),(∀σ H,R σ H->R' σ H)->g x σ H R->g x σ H R')
  (hq:∀ys H,Pv xs.length ys H->∀p,H p=none->Q (.ref p) (upd H p (.lst ys))):
  ∃W:Nat->Nat->aa V->Hp->Prop,(∃m,W 0 m [] H)/\∀i m ys H,W i m ys H->ys.length<=sizeLine/\
   (((fZ K a).stop i H/\∀p,H p=none->Q (.ref p) (upd H p (.lst ys)))\/
    ((fZ K a).go i H/\∀x H',(fZ K a).kF i H x H'->g x (List.replicate n none) H' λσ2 H2=>jy σ2 H2 λb H3=>if b=true then te σ2 H3 λy H4=>∃m',m'<m/\W (i+1) m' (ys++ [y]) H4 else ∃m',m'<m/\W (i+1) m' ys H3)):=by
 refine⟨λi m ys H=>m=xs.length-i/\i<=xs.length/\Pv i ys H,⟨xs.length,by simp,dD _,h0⟩,?_⟩
 rintro i m ys H ⟨rfl,hi,p⟩
 obtain⟨q1,q2⟩:=hl i ys H hi p
 refine⟨q2,?_⟩
 by_cases bq:i<xs.length
 ·refine .inr ⟨⟨xs,xs[i],q1,by simp[bq]⟩,λx H' y=>?_⟩
  obtain⟨e,y⟩:=y
  subst e
  refine hg _ _ _ _ _ (λσ2 H2 h=>?_) (hs i x ys _ (y xs q1) p (λy H4=>∃m',m'<xs.length-i/\m'=xs.length- (i+1)/\i+1<=xs.length/\Pv (i+1) (ys++ [y]) H4) λy H4 h4=>⟨_,by omega,rfl,bq,h4⟩)
  dsimp only[jy]
  rw[aA rfl]
  exact h
 ·have e:i=xs.length:=by omega
  subst e
  exact .inl ⟨⟨xs,q1,bu _⟩,hq ys H p⟩
end L2
namespace Fb
open PySem L2
noncomputable abbrev pW(H:Hp):aa V->aa (Int×Int)->Prop:=Paired λv t=>∃a,v= .ref a/\H a=some (.tup [.int t.1,.int t.2])
theorem Paired.get{α β:Type}{F:α->β->Prop}:∀{xs:aa α} {ys:aa β},Paired F xs ys->∀{i:Nat} {x:α},xs[i]?=some x->∃y,ys[i]?=some y/\F x y
 |_,_,.nil,i,x,h=>by simp at h
 |_,_,.cons a r,i,x,h=>by
  cases i with
  |zero=>
   have e:=h
   simp at e
   subst e
   exact(rX rfl a)
  |succ i=>
   have e:=h
   simp at e
   obtain⟨y,h1,h2⟩:=Paired.get r e
   exact⟨y,by simpa using h1,h2⟩
theorem pS{α:Type}{xs:aa α}{x:α}(h:xs[i]?=some x):xs.take (i+1)=xs.take i++ [x]:=by
 rw[sD,h]
 rfl
theorem Vj(ps:aa (Int×Int))(t:Int×Int):cS (ps++ [t])=dk (cS ps) t.1 t.2:=by
 unfold cS
 rw[List.foldl_append]
 rfl
section
variable {bW:ah} {a:c_} {n:fe} {u:fF}
theorem AN:bc ["pairs","totals","price","many"] ["pairs"] (aX LJ):=bw
inductive TQ(vs:List V)(H:Hp)(Q:VK)(_:XK):Prop
 |mk (l:Addr) (tv:List V) (ps:List (Int×Int)) (_:vs= [.ref l]) (_:H l=some (.lst tv)) (_:pW H tv ps) (_:ps.length<=1000) (_:∀dd H',aL H H'->H dd=none->H' dd=some (.dK ((cS ps).map fT))->Q (.ref dd) H')
theorem RQ(U:jK K mg u):Kp P w K mg base 1 u.uq ["pairs"] TQ:=U.uq.kp λfd G=>by
 refine G.bT AN λ_ _ _ _ H _ _ _ hr h=>?_
 obtain⟨l,tv,ps,rfl,hl,hp,hlen,q⟩:=h
 have hu:=fc hr
 refine⟨_,az (aZ 1 AN.nd VQ)
  (az (oI jG rfl (gz (pv 0)) (adU rfl (VN (eO (i:=2) AN.nd rfl (Or.inl rfl)) (VN (eO (i:=3) AN.nd rfl (Or.inl rfl)) adV)))
   (aD (gQ hu (pv 1) (pv 2) (ba gR (Br hu (pv 1) (pv 2) aF ⟨rfl,rfl,rfl,rfl⟩) (pv 3)) rfl)))
  (aD (a8 (pv 1)))),?_⟩
 refine λdd dY=>?_
 have sm:∀o,aL H (upd H dd o):=λo=>aQ dY
 refine(rX rfl ⟨l,rfl,⟨_,aK.of (sm _ _ _ hl)⟩,?_⟩)
 refine yj (K:=K) (a:=l) (xs:=tv) (λi σ H2=>H2=upd H dd (.dK ((cS (ps.take i)).map fT))/\∃v2 v3,σ= [some (.ref l),some (.ref dd),v2,v3]) ⟨rfl,none,none,rfl⟩ (λi σ H2 _ h=>by rw[h.1];exact aK.of (sm _ _ _ hl)) ?_ ?_
 ·rintro i y σ H2 hi ⟨rfl,v2,v3,rfl⟩
  obtain⟨t,ht,ta,rfl,hta⟩:=Paired.get hp hi
  have aaL:=sm (.dK ((cS (ps.take i)).map fT)) _ _ hta
  have D5:upd H dd (.dK ((cS (ps.take i)).map fT)) dd=some (.dK ((cS (ps.take i)).map fT)):=aB
  have ZF:(bQ ((cS (ps.take i)).map fT) (Sum.inl t.1)).getD (.int 0)= .int ((ie (cS (ps.take i)) t.1).getD 0):=by
   rw[Ou]
   cases ie (cS (ps.take i)) t.1<;>rfl
  have qF:((cS (ps.take i)).map fT).length<sizeLine:=by
   rw[bH,a7]
   have h1:=Nm (ps.take i)
   have h2:(ps.take i).length<=ps.length:=by rw[iT];omega
   omega
  refine⟨ta,_,rfl,aM.of aaL,rfl,_,_,rfl,_,_,rfl,rfl,?_⟩
  refine(rX rfl ⟨dd,rfl,.inl ⟨_,.inl D5⟩,rX rfl ⟨_,fO.k (k:=Sum.inl t.1) D5,rX rfl ⟨_,_,ZF,rfl,rX rfl (rX rfl ⟨dd,rX rfl ⟨eS.k (k:=Sum.inl t.1) D5 qF,?_,_,_,rfl⟩⟩)⟩⟩⟩)
  rw[fb,S_ _ _ (yp _),pS ht,Vj]
 ·rintro σ H2 ⟨rfl,v2,v3,rfl⟩
  refine(rX rfl (q dd _ (sm _) dY ?_))
  rw[aB,Paired.len hp,kL]
noncomputable def pairsOf(xs:aa Ent):aa (Int×Int):=xs.map λe=>(e.ar,e.left)
theorem aeT:bc ["book","side"] ["book","side"] (aX N3):=bw
inductive afU(c:Cs)(vs:List V)(H:Hp)(Q:VK)(_:XK):Prop
 |mk (g:Ga) (B:Bk) (b:Bool) (_:vs= [.ref g.b,.str (aH b)]) (_:Rep c H g B) (_:(B.at b).length<=1000) (_:∀dd H',aL H H'->H dd=none->H' dd=some (.dK ((cS (pairsOf (B.at b))).map fT))->Q (.ref dd) H')
theorem abI(C:bR K mg c)(F:da K mg a c)(U:jK K mg u):Kp P w K mg base 2 u.tT ["book","side"] (afU c):=U.tT.kp λfd G=>by
 obtain⟨cK,G1,b1,k1⟩:=Be (P:=P) (w:=w) (base:=base) C F
 obtain⟨dG,G2,b2,k2⟩:=RQ (P:=P) (w:=w) (base:=base) U
 refine G.bT aeT λ_ _ _ _ H _ Q _ hr h=>?_
 obtain⟨g,B,b,rfl,R,hlen,q⟩:=h
 have b_:bB 1 _:=hr.mono (by decide)
 obtain⟨dx,hb⟩:=R.ob
 refine⟨_,aD (a8 (bG G2 b_ U.DM k2 b2 (av (ou (own:=["entry"]) (caps:=[]) (g:=cT 0) (tc:=jy) (te:=rD (du (i9 K (i9 K (aW 0) "order") "price") (du (i9 K (aW 0) "remaining") g7))) rfl (by decide+kernel) (λp hp=>absurd hp (by simp)) (by decide+kernel) rfl (by decide+kernel) (gz (d0 (pv 0) C.bS F.xb G1 b_ b1 .nil cO (av (pv 1) ay)))
  (λ_ _ _ _ _=>eO (i:=0) (show(["entry"]:aa Str).Nodup by decide+kernel) rfl (Or.inl (bV rfl)) (Or.inr (bV rfl))) (λ_ _ _ _ _=>yx) (λ_ _ _ _ _=>eM (av (aT (aT (pv 0 rfl (.inl (bV rfl))) rfl) rfl) (av (aT (pv 0 rfl (.inl (bV rfl))) rfl) ay)))) ay))),?_⟩
 refine⟨[],rfl,λj p hp=>absurd hp (by simp),_,rfl,g.b,dx,_,rfl,hb,rfl,_,rfl,g,B,b,rfl,R,λl0 l h0 h1=>⟨l,rfl,⟨_,aK.of aB⟩,?_⟩⟩
 have s2:aL H (upd (upd H l0 (.lst [])) l (.lst (refs (B.at b)))):=(aQ h0).trans (aQ h1)
 generalize DU:upd (upd H l0 (.lst [])) l (.lst (refs (B.at b)))=Hx at*
 have hl:Hx l=some (.lst (refs (B.at b))):=by rw[<-DU,aB]
 refine zi3 (Q:=λx H1=>TQ [x] H1 Q E0) (K:=K) (a:=l) (n:=1) (g:=cT 0) (te:=rD (du (i9 K (i9 K (aW 0) "order") "price") (du (i9 K (aW 0) "remaining") g7))) (xs:=refs (B.at b)) (λi ys H'=>aL Hx H'/\pW H' ys ((pairsOf (B.at b)).take i)) ⟨aL.refl _,by rw[List.take_zero];exact .nil⟩ (λi ys H' hi h=>⟨aK.of (h.1 _ _ hl),?_⟩) (λi x ys H' hx h R1 y1=>?_) (λx σ H R R' hi h=>hi _ _ h) (λys H' h p hp=>?_)
 ·have:=Paired.len h.2
  rw[this,iT,a7]
  have e:(pairsOf (B.at b)).length=(B.at b).length:=bH _
  omega
 ·rw[fN]at hx
  cases ex:(B.at b)[i]? with
  |none=>
   rw[ex]at hx
   cases hx
  |some e=>
   rw[ex]at hx
   obtain rfl:V.ref e.ea=x:=cq hx
   have me:=d6 ex
   have ek:=(aL.rep (s2.trans h.1) R).en b e me
   obtain⟨de,he⟩:=ek.en
   obtain⟨md,ho⟩:=ek.od
   refine(rX rfl (rA e.ea c.E de rfl he C.bM C.e1 rfl (rA e.oa c.O md rfl ho C.cN C.o3 rfl (rX rfl (rA e.ea c.E de rfl he C.bM C.e2 rfl ⟨(by rw[a7];show 2<=16777216;decide),λtp mJ=>y1 _ _ ⟨h.1.trans (aQ mJ),?_⟩⟩)))))
   have EM:(pairsOf (B.at b))[i]?=some (e.ar,e.left):=by
    show((B.at b).map _)[i]?=_
    rw[fN,ex]
    rfl
   rw[pS EM]
   exact Paired.snoc ⟨tp,rfl,aB⟩ (Paired.eJ h.2 λv t ⟨z,h1,h2⟩=>⟨z,h1,aQ mJ _ _ h2⟩)
 ·obtain⟨s3,jS⟩:=h
  have e:(refs (B.at b)).length=(pairsOf (B.at b)).length:=by rw[bH];exact(bH _).symm
  rw[e,kL]at jS
  have s4:=aQ (o:=.lst ys) hp
  have e2:(pairsOf (B.at b)).length=(B.at b).length:=bH _
  refine⟨p,ys,pairsOf (B.at b),rfl,aB,Paired.eJ jS λv t ⟨z,h1,h2⟩=>⟨z,h1,s4 _ _ h2⟩,by omega,λdd H5 s5 dY wc=>?_⟩
  exact q dd H5 ((s2.trans s3).trans (s4.trans s5)) (((s2.trans s3).trans s4).free dY) wc
theorem LQ:bc ["price","demand","supply","last_price","distance"] ["price","demand","supply","last_price"] (aX Oz):=bw
noncomputable def vu(i:Int):Int:=if i<0 then-i else i
noncomputable def pf(p:Int):ae Int->Int
 |none=>0
 |some l=>vu (p-l)
noncomputable def BQ(p dm sp:Int)(la:ae Int):aa Int:=[-(mn dm sp),vu (dm-sp),pf p la,p]
inductive agl(vs:List V)(H:Hp)(Q:VK)(_:XK):Prop
 |mk (p dm sp:Int) (la:Option Int) (_:vs= [.int p,.int dm,.int sp,oV la]) (_:∀t,H t=none->Q (.ref t) (upd H t (.tup ((BQ p dm sp la).map V.int))))
theorem ab5(C:bR K mg c)(iI:mg "abs"=none)(U:jK K mg u):Kp P w K mg base 1 u.weigh ["price","demand","supply","last_price"] agl:=U.weigh.kp λfd G=>by
 refine G.bT LQ λ_ _ _ _ H _ Q _ _ h=>?_
 obtain⟨p,dm,sp,la,rfl,q⟩:=h
 refine⟨_,az (aZ 4 LQ.nd aF)
  (az (bK (gB (rP (pv 3))) (aD (aZ 4 LQ.nd (c9 Bl (by rfl) iI (by decide+kernel) (av (ba kJ (pv 0) (pv 3)) ay)))) bZ)
  (aD (a8 (eM (av (AB BR (c9 (pT rfl) (by rfl) C.min (by decide+kernel) (av (pv 1) (av (pv 2) ay)))) (av (c9 Bl (by rfl) iI (by decide+kernel) (av (ba kJ (pv 1) (pv 2)) ay)) (av (pv 4) (av (pv 0) ay)))))))),?_⟩
 refine(rX rfl (rX rfl ?_))
 have fin:∀z,z=pf p la->AX (rD (du (T8 (rU λi=>.int (-i)) (xN (λxs H Q=>∃i j,xs= [.int i,.int j]/\Q (.int (if j<i then j else i)) H) (du (aW 1) (du (aW 2) g7)))) (du (xN (λxs H Q=>∃i,xs= [.int i]/\Q (.int (if i<0 then-i else i)) H) (du (e7 (jW λi j=>.int (i-j)) (aW 1) (aW 2)) g7)) (du (aW 4) (du (aW 0) g7))))) {nx:=λ_ H'=>Q .aE H',rt:=Q} [some (.int p),some (.int dm),some (.int sp),some (oV la),some (.int z)] H:=λz hz=>by
  subst hz
  exact(rX rfl (rX rfl ⟨_,rX rfl (rX rfl (rX rfl (rX rfl (r2 rfl rfl (rX rfl (rX rfl (rX rfl ⟨(by rw[a7];show 4<=16777216;decide),λt ht=>q t ht⟩)))))))⟩))
 cases la with
 |none=>exact bF (fin 0 rfl)
 |some l=>exact bL ⟨_,rfl,_,rfl,_,_,rfl,rfl,_,rfl,fin _ rfl⟩
end
open PySem L2
noncomputable def bU(b:aa Int):aa (aa Int)->aa Int
 | []=>b
 |x::r=>bU (if HT.lexLt x b=true then x else b) r
theorem acv{x b:Int}{xs bs:aa Int}:(HT.lexLt (x::xs) (b::bs)=true->x<=b)/\(HT.lexLt (x::xs) (b::bs)=false->b<=x):=by
 rw[HT.q_]
 by_cases h:x=b
 ·rw[aA h]
  exact⟨λ_=>by omega,λ_=>by omega⟩
 ·rw[ax h]
  exact⟨λz=>Int.le_of_lt (eB z),λz=>Int.not_lt.mp (yQ z)⟩
theorem MK:∀(r:aa (aa Int)) (b:aa Int),b≠[]->(∀x∈r,x≠[])->(bU b r=b\/bU b r∈r)/\bU b r≠[]/\(bU b r).headD 0<=b.headD 0/\∀x∈r,(bU b r).headD 0<=x.headD 0
 | [],b,hb,_=>⟨.inl rfl,hb,fM _,λ_ h=>absurd h (by simp)⟩
 |x::r,b,hb,hr=>by
  have hx:=hr x bA
  obtain⟨b0,bs,rfl⟩:=List.exists_cons_of_ne_nil hb
  obtain⟨x0,xs,rfl⟩:=List.exists_cons_of_ne_nil hx
  obtain⟨l1,l2⟩:=acv (x:=x0) (b:=b0) (xs:=xs) (bs:=bs)
  have Q9:∀y∈r,y≠[]:=λy hy=>hr y (cE _ hy)
  cases bq:HT.lexLt (x0::xs) (b0::bs)with
  |true=>
   have st:bU (b0::bs) ((x0::xs)::r)=bU (x0::xs) r:=by
    show bU (if HT.lexLt (x0::xs) (b0::bs)=true then x0::xs else b0::bs) r=_
    rw[aA bq]
   rw[st]
   obtain⟨m,n,h1,h2⟩:=MK r (x0::xs) (by simp) Q9
   refine⟨.inr (m.elim (λe=>by rw[e];exact bA) λe=>cE _ e),n,Int.le_trans h1 (l1 bq),λy hy=>?_⟩
   rcases hZ.mp hy with rfl|gr
   ·exact h1
   ·exact h2 y gr
  |false=>
   have st:bU (b0::bs) ((x0::xs)::r)=bU (b0::bs) r:=by
    show bU (if HT.lexLt (x0::xs) (b0::bs)=true then x0::xs else b0::bs) r=_
    rw[ax (by rw[bq];exact cb)]
   rw[st]
   obtain⟨m,n,h1,h2⟩:=MK r (b0::bs) (by simp) Q9
   refine⟨m.elim .inl λe=>.inr (cE _ e),n,h1,λy hy=>?_⟩
   rcases hZ.mp hy with rfl|gr
   ·exact Int.le_trans h1 (l2 bq)
   ·exact h2 y gr
open PySem L2
theorem Al{a b k:Int}(h1:k<=a)(h2:k<=b):k<=mn a b:=by
 unfold mn
 split<;>omega
theorem eT.aha{m:Int}(ok:B.Ok)(ps:B.Pos)(h0:0<=m)(h:eT p B m ts B' 0)
  (mx:∀b,∀e∈B.at b,mn (br true e.ar B.aU) (br false e.ar B.aV)<=m):yk B'=false:=by
 have g:=h.good ok ps h0
 unfold yk
 cases e1:B'.aU with
 |nil=>rfl
 |cons x r=>
  cases e2:B'.aV with
  |nil=>rfl
  |cons y t=>
   refine cW λkB=>?_
   have Sy:x∈B'.at true:=by show x∈B'.aU;rw[e1];exact bA
   have my1:y∈B'.at false:=by show y∈B'.aV;rw[e2];exact bA
   have px:=g.ps.ps _ x Sy
   have py:=g.ps.ps _ y my1
   have gx:fj true x.ar x:=fM _
   have gy:fj false x.ar y:=kB
   have a1:br true x.ar B.aU=m-0+br true x.ar B'.aU:=g.ea true x.ar x r e1 gx
   have a2:br false x.ar B.aV=m-0+br false x.ar B'.aV:=g.ea false x.ar y t e2 gy
   have c1:0<=br true x.ar r:=rL λe he=>by
    have:=g.ps.ps true e (by show e∈B'.aU;rw[e1];exact cE _ he)
    omega
   have c2:0<=br false x.ar t:=rL λe he=>by
    have:=g.ps.ps false e (by show e∈B'.aV;rw[e2];exact cE _ he)
    omega
   rw[e1,rW gx]at a1
   rw[e2,rW gy]at a2
   obtain⟨z,hz,_,q,_⟩:=g.nm true x Sy
   have top:=mx true z hz
   rw[q]at top
   have:=Al (k:=m+1) (a:=br true x.ar B.aU) (b:=br false x.ar B.aV) (by omega) (by omega)
   omega
end Fb
namespace L2
open PySem PySem.Spec PyProof.Rows Fb
noncomputable def Cm(X:Cx)(f:af)(k:Str)(r:aa V->V->Hp->VK->Prop):Prop:=
 ∀(pins:aa (ah×Obj)) (s:ag) (σ:St) (H:Hp) (xs:aa V) (us:aa af) (d:V) (dv:af) (Q:VK),Inv X pins σ H s->Vals xs us->RelV d dv->r xs d H Q->
  wpAny (model X.prog X.w) X.A (call f us [(k,dv)]) (EP X pins σ Q) X.xe s
noncomputable def agy(r:aa V->V->Hp->VK->Prop)(t:TA)(td:TE):TE:=λσ H Q=>t σ H λvs H1=>td σ H1 λd H2=>r vs d H2 Q
section
variable {e ek:Expr} {k:Str} {p kp:Pos} {id:String} {r:aa V->V->Hp->VK->Prop}
theorem Vt(hc:Cm X (.builtin id) k r)(hg:Gl X x)(hm:X.mg x=none)(hv:bootBuiltins x=some (.builtin id))(ha:PA X (e::es) t)(hd:PE X ek td)(hn:x≠"__name__":=by decide)(fq:(x==("__debug__":Str))=false:=by decide)
  (h1:backTo pos (starEach (e::es) X.env)=(false,eval e X.env)::backTo pos (starEach es X.env):=by rfl) (h2:(backTo pos (starEach (e::es) X.env)).any (·.1)=false:=by rfl):
  PE X (.Call (.Name x p) (e::es) [⟨some k,ek,kp⟩] pos) (agy r t td):=by
 refine .mk ?_;intro pins s σ H Q I h
 refine sJ (yr I hg hm hv ?_ hn fq)
 exact callWith_kw (aO (ha pos pins s σ H _ I h) λus s1 ⟨vs,H1,I1,r1,q1⟩=>kws_cons (aO (hd pins s1 σ H1 _ I1 q1) λdv s2 ⟨d,H2,I2,r2,q2⟩=>kws_nil (hc pins s2 σ H2 vs us d dv Q I2 r1 r2 q2))) h1 h2
noncomputable def intOf:V->Int
 | .int i=>i
 |_=>0
noncomputable def rowOf(H:Hp):af->aa Int
 | .ref a=>match H a with
  |some (.tup xs)=>xs.map intOf
  |_=>[]
 |_=>[]
noncomputable def i7(H:Hp)(v u:af):ai:=HT.lexLt (rowOf H v) (rowOf H u)
theorem uM(h:H a=some (.tup (ns.map V.int))):rowOf H (.ref a)=ns:=by
 show(match H a with|some (.tup xs)=>xs.map intOf|_=>[])=ns
 rw[h]
 show(ns.map V.int).map intOf=ns
 rw[gG]
 exact List.map_id' ns
noncomputable abbrev rZ(H:Hp):aa V->aa (aa Int)->Prop:=Paired λv ns=>∃a,v= .ref a/\H a=some (.tup (ns.map V.int))
theorem xY:∀{vs:aa V} {rows:aa (aa Int)},rZ H vs rows->∀{us:aa af},Vals vs us->∀v∈us,∃(a:ah) (ns:aa Int),v= .ref a/\H a=some (.tup (ns.map V.int))
 |_,_,.nil,_,r,v,hv=>by
  cases r
  simp at hv
 |_,_,.cons ⟨a,ha,hr⟩ t,_,r,v,hv=>by
  subst ha
  cases r with
  |cons r1 r2=>
   cases r1
   rcases hZ.mp hv with rfl|hv
   ·exact⟨a,_,rfl,hr⟩
   ·exact xY t r2 v hv
theorem A_:∀{vs:aa V} {rows:aa (aa Int)},rZ H vs rows->∀{us:aa af},Vals vs us->∀{a:ah} {b:aa Int},H a=some (.tup (b.map V.int))->
  ∃t,jB (i7 H) (some (.ref a)) us=some (.ref t)/\H t=some (.tup ((bU b rows).map V.int))
 |_,_,.nil,_,r,a,b,h=>by
  cases r
  exact⟨a,rfl,h⟩
 |_,_,.cons (b:=ns) ⟨c,hc,hr⟩ t,_,r,a,b,h=>by
  subst hc
  cases r with
  | @cons _ _ _ us r1 r2=>
   cases r1
   have e:i7 H (.ref c) (.ref a)=HT.lexLt ns b:=by
    unfold i7
    rw[uM hr,uM h]
   cases hk:HT.lexLt ns b with
   |true=>
    obtain⟨z,h1,h2⟩:=A_ t r2 hr
    refine⟨z,?_,?_⟩
    ·show jB (i7 H) (some (if i7 H (.ref c) (.ref a)=true then _ else _)) us=_
     rw[e,hk,aA rfl]
     exact h1
    ·show H z=some (.tup ((bU (if HT.lexLt ns b=true then ns else b) _).map V.int))
     rw[hk,aA rfl]
     exact h2
   |false=>
    obtain⟨z,h1,h2⟩:=A_ t r2 h
    refine⟨z,?_,?_⟩
    ·show jB (i7 H) (some (if i7 H (.ref c) (.ref a)=true then _ else _)) us=_
     rw[e,hk,ax cb]
     exact h1
    ·show H z=some (.tup ((bU (if HT.lexLt ns b=true then ns else b) _).map V.int))
     rw[hk,ax cb]
     exact h2
noncomputable def aeh:aa V->V->Hp->VK->Prop:=λxs d H Q=>∃(l:ah) (vs:aa V) (rows:aa (aa Int)),xs= [.ref l]/\H l=some (.lst vs)/\rZ H vs rows/\(rows= []->Q d H)/\∀b r,rows=b::r->∀t,H t=some (.tup ((bU b r).map V.int))->Q (.ref t) H
theorem zk1(hc:X.calm=true)(hu:X.A.units+1<cLine):Cm X (.builtin "min") (Str.ofString "default") aeh:=by
 intro pins s σ H xs us d dv Q I r rd h
 obtain⟨l,vs,rows,rfl,hl,hr,q1,q2⟩:=h
 obtain⟨u,rfl,rx⟩:=jg r
 cases rx
 obtain⟨its,rv,⟨o,n,e,c,_,dt⟩,_⟩:=I.list (aK.of hl)
 refine zk3 (lt:=i7 H) (vs:=its) (I.ok.hd hc) ⟨o,e,c,n,dt⟩ (λv hv y hy s' Q' E' k q=>?_) (λh' tk k=>?_)
 ·obtain⟨a,ns,rfl,ha⟩:=xY hr rv v hv
  obtain⟨b,ms,rfl,hb⟩:=xY hr rv y hy
  obtain⟨i1,r1,⟨o1,e1,c1,n1,d1⟩,_⟩:=I.tuple (aM.of ha)
  obtain⟨i2,r2,⟨o2,e2,c2,n2,d2⟩,_⟩:=I.tuple (aM.of hb)
  have z:i7 H (.ref a) (.ref b)=HT.lexLt ns ms:=by
   unfold i7
   rw[uM ha,uM hb]
  rw[z]at q
  exact HT.Fs (A:=X.A.in1) ⟨o1,k _ _ e1,c1,n1,d1⟩ ⟨o2,k _ _ e2,c2,n2,d2⟩ (uB r1) (uB r2) (by rw[Around.in1_units];exact hu) q
 ·cases hr with
  |nil=>
   cases rv
   exact⟨d,H,I.kept k,rd,q1 rfl⟩
  | @cons v ns vs' aer hv EX=>
   obtain⟨a,rfl,ha⟩:=hv
   cases rv with
   |cons r1 r2=>
    cases r1
    obtain⟨z,h1,h2⟩:=A_ EX r2 ha
    have e3:jB (i7 H) none (.ref a::_)=some (.ref z):=h1
    rw[e3]
    exact⟨.ref z,H,I.kept k,rfl,q2 ns aer rfl z h2⟩
end
end L2
namespace Fb
open PySem L2
theorem ac2(k:Int)(h:ks.Nodup):(Sx.iW ks k).Nodup:=by
 unfold Sx.iW
 split
 ·exact h
 ·rename_i hk
  refine List.nodup_append.mpr ⟨h,by simp,λa ha b hb=>?_⟩
  rw[List.mem_singleton.mp hb]
  exact λe=>hk (by rw[<-e];exact ha)
theorem U1:∀(js:aa Int) {ks:aa Int},ks.Nodup->(Sx.dF ks js).Nodup
 | [],_,h=>h
 |k::r,_,h=>U1 r (ac2 k h)
theorem rising:∀{zs:aa Int},zs.Nodup->zs.Pairwise (·<=·)->zs.Pairwise (·< ·)
 | [],_,_=>.nil
 |z::r,n,p=>by
  obtain⟨n1,n2⟩:=List.nodup_cons.mp n
  obtain⟨p1,p2⟩:=List.pairwise_cons.mp p
  refine List.pairwise_cons.mpr ⟨λa ha=>?_,rising n2 p2⟩
  have h1:=p1 a ha
  have h2:z≠a:=λe=>n1 (by rw[e];exact ha)
  omega
theorem A8:∀{zs:aa Int} {i:Nat},zs.Pairwise (·< ·)->zs[i]?=some q->∀p∈zs,(p∈zs.take i↔p<q)/\(p∈zs.take (i+1)↔p<=q)
 | [],_,_,_,p,hp=>by simp at hp
 |z::r,0,s,h,p,hp=>by
  obtain⟨s1,s2⟩:=List.pairwise_cons.mp s
  have e:z=q:=by simpa using h
  subst e
  rcases hZ.mp hp with rfl|hp
  ·simp
  ·have:=s1 p hp
   refine⟨?_,?_⟩
   ·simp
    omega
   ·simp
    omega
 |z::r,i+1,s,h,p,hp=>by
  obtain⟨s1,s2⟩:=List.pairwise_cons.mp s
  have h':r[i]?=some q:=by simpa using h
  have hq:=s1 q (d6 h')
  rcases hZ.mp hp with rfl|hp
  ·refine⟨?_,?_⟩
   ·simp
    exact hq
   ·simp
    omega
  ·obtain⟨a,b⟩:=A8 s2 h' p hp
   have hz:=s1 p hp
   have ne:p≠z:=by omega
   refine⟨?_,?_⟩
   ·rw[List.take_succ_cons,hZ]
    exact⟨λx=>x.elim (λe=>absurd e ne) a.mp,λx=>.inr (a.mpr x)⟩
   ·rw[List.take_succ_cons,hZ]
    exact⟨λx=>x.elim (λe=>absurd e ne) b.mp,λx=>.inr (b.mpr x)⟩
theorem aep(s:zs.Pairwise (·< ·))(h:zs[i]?=some q):q∉zs.take i:=λm=>by
 have:=((A8 s h q (d6 h)).1).mp m
 omega
theorem WE(q:Int):∀xs:aa Ent,br true q xs=bJ (λp=>decide (q<=p)) (pairsOf xs)
 | []=>rfl
 |e::r=>by
  show(if fj true q e then e.left else 0)+br true q r=(if decide (q<=e.ar)=true then e.left else 0)+bJ _ (pairsOf r)
  rw[WE q r]
  by_cases h:q<=e.ar
  ·rw[aA (show fj true q e from h),aA (bO h)]
  ·rw[ax (show ¬fj true q e from h),ax (λz=>h (eB z))]
theorem V5(q:Int):∀xs:aa Ent,br false q xs=bJ (λp=>decide (p<=q)) (pairsOf xs)
 | []=>rfl
 |e::r=>by
  show(if fj false q e then e.left else 0)+br false q r=(if decide (e.ar<=q)=true then e.left else 0)+bJ _ (pairsOf r)
  rw[V5 q r]
  by_cases h:e.ar<=q
  ·rw[aA (show fj false q e from h),aA (bO h)]
  ·rw[ax (show ¬fj false q e from h),ax (λz=>h (eB z))]
theorem VH:∀T:aa (Int×Int),eZ (T.map (·.2))=bJ (λ_=>true) T
 | []=>rfl
 |t::r=>by
  show t.2+eZ (r.map (·.2))=(if true=true then t.2 else 0)+bJ _ r
  rw[VH r,aA rfl]
theorem Bc(p:Int)(xs:aa Ent):p∈(pairsOf xs).map (·.1)↔∃e∈xs,e.ar=p:=by
 unfold pairsOf
 rw[gG,u4]
 rfl
theorem ahk(s:zs.Pairwise (·< ·))(h:zs[i]?=some q)(m:∀e∈xs,e.ar∈zs):
  bJ (λ_=>true) (cS (pairsOf xs)) -bJ (λp=>decide (p∈zs.take i)) (cS (pairsOf xs))=br true q xs:=by
 rw[WE,<-MM (λp=>decide (q<=p)),<-Vk]
 refine Mw λt ht=>?_
 have hk:t.1∈(cS (pairsOf xs)).map (·.1):=u4.mpr ⟨t,ht,rfl⟩
 obtain⟨e,he,ep⟩:=(Bc _ _).mp ((ya _ _).mp hk)
 have z:=(A8 s h t.1 (by rw[<-ep];exact m e he)).1
 by_cases hq:q<=t.1
 ·have n:¬t.1∈zs.take i:=λw=>by have:=z.mp w;omega
  simp[hq,n]
 ·have y:t.1∈zs.take i:=z.mpr (by omega)
  simp[hq,y]
theorem zjd(s:zs.Pairwise (·< ·))(h:zs[i]?=some q)(m:∀e∈xs,e.ar∈zs):
  bJ (λp=>decide (p∈zs.take (i+1))) (cS (pairsOf xs))=br false q xs:=by
 rw[V5,<-MM (λp=>decide (p<=q))]
 refine Mw λt ht=>?_
 have hk:t.1∈(cS (pairsOf xs)).map (·.1):=u4.mpr ⟨t,ht,rfl⟩
 obtain⟨e,he,ep⟩:=(Bc _ _).mp ((ya _ _).mp hk)
 have z:=(A8 s h t.1 (by rw[<-ep];exact m e he)).2
 by_cases hq:t.1<=q
 ·simp[hq,z.mpr hq]
 ·have n:¬t.1∈zs.take (i+1):=λw=>hq (z.mp w)
  simp[hq,n]
theorem VG(s:zs.Pairwise (·< ·))(h:zs[i]?=some q)(ps:aa (Int×Int)):
  bJ (λp=>decide (p∈zs.take (i+1))) (cS ps)=bJ (λp=>decide (p∈zs.take i)) (cS ps)+(ie (cS ps) q).getD 0:=by
 rw[pS h,UE (aep s h),Wu q (yp ps)]
noncomputable def bg(B:Bk)(q:Int):aa Int:=BQ q (br true q B.aU) (br false q B.aV) B.last
theorem Ue(T:aa (Int×Int))(q:Int):(bQ (T.map fT) (Sum.inl q)).getD (.int 0)= .int ((ie T q).getD 0):=by
 rw[Ou]
 cases ie T q<;>rfl
theorem RR(T:aa (Int×Int)):(T.map fT).map (·.1)=(T.map (·.1)).map Sum.inl:=by
 rw[gG,gG]
 rfl
theorem ahg(T:aa (Int×Int)):(T.map fT).map (·.2)=(T.map (·.2)).map V.int:=by
 rw[gG,gG]
 rfl
structure jL(mg:Str->Option Value):Prop where
 abs:mg "abs"=none
 sum:mg "sum"=none
 set:mg "set"=none
 sorted:mg "sorted"=none
section
variable {bW:ah} {a:c_} {n:fe} {u:fF}
theorem oh:bc ["book","bought","sold","demand","supply","weighed","price"] ["book"] (aX MC):=bw
inductive agm(c:Cs)(vs:List V)(H:Hp)(Q:VK)(_:XK):Prop
 |mk (g:Ga) (B:Bk) (_:vs= [.ref g.b]) (_:Rep c H g B) (_:B.aU.length+B.aV.length<=30) (_:∀(l:Addr) (wv:List V) (qs:List Int) (H':Hp),aL H H'->H' l=some (.lst wv)->rZ H' wv (qs.map (bg B))->(∀p,p∈qs↔∃b,∃e∈B.at b,e.ar=p)->Q (.ref l) H')
theorem zgK(C:bR K mg c)(F:da K mg a c)(N:jl K mg c n)(U:jK K mg u)(Z:jL mg):Kp P w K mg base 3 u.ux ["book"] (agm c):=U.ux.kp λfd G=>by
 obtain⟨cK,G1,b1,k1⟩:=abI (P:=P) (w:=w) (base:=base) C F U
 obtain⟨dG,G2,b2,k2⟩:=ab5 (P:=P) (w:=w) (base:=base) C Z.abs U
 obtain⟨gY,G3,b3,k3⟩:=RM (P:=P) (w:=w) (base:=base) C N
 refine G.bT oh λ_ _ _ _ H _ _ _ hr h=>?_
 obtain⟨g,B,rfl,R,hlen,q⟩:=h
 have b_:bB 1 _:=hr.mono (by decide)
 have hu:=fc hr
 refine⟨_,az (aZ 1 oh.nd (bG G1 hr U.DH k1 b1 (av (pv 0) (av aJ ay))))
  (az (aZ 2 oh.nd (bG G1 hr U.DH k1 b1 (av (pv 0) (av aJ ay))))
  (az (aZ 3 oh.nd (c9 (zk0 rfl) (by rfl) Z.sum (by decide+kernel) (av (S5 Ce PySem.F.slot_dict_values PySem.F.type_dict_values zj1 (pv 1)) ay)))
  (az (aZ 4 oh.nd aF)
  (az (aZ 5 oh.nd (fW ay))
  (az (oI jG rfl (gz (c9 (zgY rfl) (by rfl) Z.sorted (by decide+kernel) (av (ba adD (x9 UU (by rfl) Z.set (by decide+kernel) (av (pv 1) ay)) (x9 UU (by rfl) Z.set (by decide+kernel) (av (pv 2) ay))) ay))) (eO (i:=6) oh.nd rfl (Or.inl rfl))
   (az (BP (i:=4) oh.nd rfl (Or.inl rfl) (Br hu (pv 2) (pv 6) aF ⟨rfl,rfl,rfl,rfl⟩) RG)
   (az (cP (lX l8 sF sG rJ (pv 5) (av (bG G2 b_ U.Qd k2 b2 (av (pv 6) (av (pv 3) (av (pv 4) (av (m8 (pv 0) C.bS N.Fu G3 b_ b3 .nil cO) ay))))) ay)))
   (aD (BP (i:=3) oh.nd rfl (Or.inl rfl) (Br hu (pv 1) (pv 6) aF ⟨rfl,rfl,rfl,rfl⟩) RH)))))
  (aD (a8 (pv 5)))))))),?_⟩
 have l1:=m_ B true
 have l2:=m_ B false
 refine(rX rfl ⟨g,B,true,rfl,R,by omega,λd1 H1 s1 hd1 e1=>?_⟩)
 refine(rX rfl ⟨g,B,false,rfl,aL.rep s1 R,by omega,λd2 H2 s2 hd2 e2=>?_⟩)
 have n12:d1≠d2:=a6 e1 hd2
 have R2:=aL.rep s2 (aL.rep s1 R)
 have qt:=s2 _ _ e1
 generalize vX:cS (pairsOf (B.at true))=T1 at*
 generalize vY:cS (pairsOf (B.at false))=T2 at*
 have z1:(T1.map (·.1)).length<=B.aU.length:=by rw[bH,<-vX];exact eA (Nm _) (u6 (bH _))
 have z2:(T2.map (·.1)).length<=B.aV.length:=by rw[bH,<-vY];exact eA (Nm _) (u6 (bH _))
 have xj:(T1.map (·.1)).Nodup:=by rw[<-vX];exact yp _
 have nd2:(T2.map (·.1)).Nodup:=by rw[<-vY];exact yp _
 refine(rX rfl ⟨.inr (.inr (.inl ⟨rfl,.inl ⟨_,qt⟩⟩)),d1,rX rfl ⟨rfl,qt,λv hv=>⟨v,d1,_,T1.map (·.2),rfl,aB,aQ hv _ _ qt,ahg T1,?_⟩⟩⟩)
 have s3:=aQ (o:=uw v d1) hv
 generalize upd H2 v (uw v d1)=H3 at*
 refine⟨(by rw[a7];show 0<=16777216;decide),λl hl=>?_⟩
 have s4:=aQ (o:=.lst []) hl
 have l4:upd H3 l (.lst []) l=some (.lst []):=aB
 generalize upd H3 l (.lst [])=H4 at*
 have Pp:=s4 _ _ (s3 _ _ qt)
 have Yb:=s4 _ _ (s3 _ _ e2)
 refine(rX rfl ⟨d1,_,rX rfl ⟨Pp,RR T1,xj,by omega,λp1 g0=>?_⟩⟩)
 have s5:=aQ (o:=jP w p1 (T1.map (·.1))) g0
 have S2:upd H4 p1 (jP w p1 (T1.map (·.1))) p1=some (jP w p1 (T1.map (·.1))):=aB
 have Pq:=s5 _ _ Yb
 have X8:=s5 _ _ Pp
 have l5:=s5 _ _ l4
 refine(rX rfl ⟨d2,_,rX rfl ⟨Pq,RR T2,nd2,by omega,λp2 eV=>?_⟩⟩)
 have s6:=aQ (o:=jP w p2 (T2.map (·.1))) eV
 have p16:=s6 _ _ S2
 have X9:=s6 _ _ X8
 have Yc:=s6 _ _ Pq
 have l6:=s6 _ _ l5
 refine⟨p1,p2,_,_,rfl,rfl,a6 S2 eV,p16,aB,by omega,λp3 jS=>?_⟩
 have s7:=aQ (o:=jP w p3 (Sx.dF (T1.map (·.1)) (T2.map (·.1)))) jS
 have X_:=s7 _ _ X9
 have Yd:=s7 _ _ Yc
 have l7:=s7 _ _ l6
 have zl:=Sx.yX (T2.map (·.1)) (T1.map (·.1))
 refine⟨p3,_,rfl,aB,by omega,λls zs pm pw eI=>⟨ls,rfl,⟨_,aK.of aB⟩,?_⟩⟩
 have s8:=aQ (o:=.lst (zs.map V.int)) eI
 have Ya:=s8 _ _ X_
 have Ye:=s8 _ _ Yd
 have ZO:=s8 _ _ l7
 have Ao:ls≠l:=(a6 l7 eI).symm
 have rz:zs.Pairwise (·< ·):=rising (pm.nodup_iff.mpr (U1 _ xj)) pw
 have mz:∀p,p∈zs↔∃b,∃e∈B.at b,e.ar=p:=λp=>by
  rw[pm.mem_iff,Sx.Aj,<-vX,<-vY,ya,ya,Bc,Bc]
  exact⟨λx=>x.elim (λy=>⟨true,y⟩) λy=>⟨false,y⟩,λ⟨b,y⟩=>by cases b;exact .inr y;exact .inl y⟩
 have s08:=s1.trans (s2.trans (s3.trans (s4.trans (s5.trans (s6.trans (s7.trans s8))))))
 have akO:zs.length<=30:=by rw[pm.length_eq];omega
 have mE:H l=none:=(s1.trans (s2.trans s3)).free hl
 refine yj (K:=K) (a:=ls) (xs:=zs.map V.int) (λi σ H'=>∃(wv:aa V) (x6:ae V),σ= [some (.ref g.b),some (.ref d1),some (.ref d2),some (.int (bJ (λ_=>true) T1-bJ (λp=>decide (p∈zs.take i)) T1)),some (.int (bJ (λp=>decide (p∈zs.take i)) T2)),some (.ref l),x6]/\
  aL H H'/\H' d1=some (.dK (T1.map fT))/\H' d2=some (.dK (T2.map fT))/\H' ls=some (.lst (zs.map V.int))/\H' l=some (.lst wv)/\rZ H' wv ((zs.take i).map (bg B))) ?_ (λi σ H' _ h=>?_) ?_ ?_
 ·refine⟨[],none,?_,s08,Ya,Ye,aB,ZO,.nil⟩
  have y:∀T:aa (Int×Int),bJ (λp=>decide (p∈zs.take 0)) T=0:=λT=>by
   induction T with
   |nil=>rfl
   |cons t r ih=>
    show(if decide (t.1∈zs.take 0)=true then t.2 else 0)+bJ _ r=0
    rw[ih]
    simp
  rw[y T1,y T2,VH,Int.sub_zero]
  rfl
 ·obtain⟨_,_,_,_,_,_,hz,_⟩:=h
  exact aK.of hz
 ·rintro i y σ H' hi ⟨wv,x6,rfl,sH,Pk,yZ,qX,hw,fB⟩
  rw[fN]at hi
  cases ex:zs[i]? with
  |none=>
   rw[ex]at hi
   cases hi
  |some qq=>
   rw[ex]at hi
   obtain rfl:V.int qq=y:=cq hi
   have Rk:Rep c H' g B:=aL.rep sH R
   obtain⟨dxb,hb⟩:=id Rk.ob
   have xM:bJ (λp=>decide (p∈zs.take (i+1))) T1=bJ (λp=>decide (p∈zs.take i)) T1+(ie T1 qq).getD 0:=by rw[<-vX];exact VG rz ex _
   have pO:bJ (λp=>decide (p∈zs.take (i+1))) T2=bJ (λp=>decide (p∈zs.take i)) T2+(ie T2 qq).getD 0:=by rw[<-vY];exact VG rz ex _
   have Zn:bJ (λ_=>true) T1-bJ (λp=>decide (p∈zs.take i)) T1=br true qq B.aU:=by rw[<-vX];exact ahk rz ex λe he=>(mz _).mpr ⟨true,e,he,rfl⟩
   have iM:bJ (λp=>decide (p∈zs.take i)) T2+(ie T2 qq).getD 0=br false qq B.aV:=by rw[<-pO,<-vY];exact zjd rz ex λe he=>(mz _).mpr ⟨false,e,he,rfl⟩
   have wU:wv.length<sizeLine:=by
    rw[Paired.len fB,bH,iT,a7]
    omega
   refine(rX rfl (rX rfl ⟨d2,rfl,.inl ⟨_,.inl yZ⟩,rX rfl ⟨_,fO.k (k:=Sum.inl qq) yZ,_,rX rfl ⟨Ue T2 qq,?_⟩⟩⟩))
   refine(rX rfl ⟨.inl ⟨rfl,_,aK.of hw⟩,rX rfl (rX rfl (rX rfl (rX rfl (rM g.b dxb rfl hb rfl ⟨g,B,rfl,Rk,_,_,_,B.last,rfl,λt ht=>?_⟩))))⟩)
   have t_:l≠t:=a6 hw ht
   refine⟨l,wv,_,rfl,rfl,(aw t_).trans hw,wU,?_⟩
   have kk:∀x o,H' x=some o->x≠l->upd (upd H' t (.tup ((BQ qq (bJ (λ_=>true) T1-bJ (λp=>decide (p∈zs.take i)) T1) (bJ (λp=>decide (p∈zs.take i)) T2+(ie T2 qq).getD 0) B.last).map V.int))) l (.lst (wv++ [.ref t])) x=some o:=λx o hx n=>by
    rw[aw n]
    exact aQ ht _ _ hx
   have Dc:=kk _ _ Pk (aN 6 5 Pk hw)
   refine(rX rfl (rX rfl ⟨d1,rfl,.inl ⟨_,.inl Dc⟩,rX rfl ⟨_,fO.k (k:=Sum.inl qq) Dc,_,rX rfl ⟨Ue T1 qq,?_⟩⟩⟩))
   refine⟨wv++ [.ref t],some (.int qq),?_,λx o hx=>kk x o (sH x o hx) (a6 hx mE),Dc,kk _ _ yZ (aN 6 5 yZ hw),kk _ _ qX Ao,aB,?_⟩
   ·rw[xM,pO,<-Int.sub_sub]
    rfl
   ·rw[pS ex,jh]
    refine Paired.snoc ⟨t,rfl,?_⟩ (Paired.eJ fB λv ns ⟨z,h1,h2⟩=>⟨z,h1,kk z _ h2 (aN 7 5 h2 hw)⟩)
    rw[aw t_.symm,aB]
    show some (HO.tup ((BQ qq (bJ (λ_=>true) T1-bJ (λp=>decide (p∈zs.take i)) T1) (bJ (λp=>decide (p∈zs.take i)) T2+(ie T2 qq).getD 0) B.last).map V.int))=_
    rw[Zn,iM]
    rfl
 ·rintro σ H' ⟨wv,x6,rfl,sH,_,_,_,hw,fB⟩
  refine(rX rfl (q l wv zs H' sH hw ?_ mz))
  rw[bH,kL]at fB
  exact fB
end
open PySem L2
noncomputable def kj:aa (aa Int)->ae (Int×Int)
 | []=>none
 |b::r=>if(bU b r).headD 0=0 then none else some ((bU b r).getD 3 0,-((bU b r).headD 0))
noncomputable def mq(B:Bk)(q:Int):Int:=mn (br true q B.aU) (br false q B.aV)
theorem Ve(B:Bk)(q:Int):bg B q= [-(mq B q),vu (br true q B.aU-br false q B.aV),pf q B.last,q]:=rfl
theorem Bh(B:Bk)(q:Int)(r:aa Int):∃z,(z=q\/z∈r)/\bU (bg B q) (r.map (bg B))=bg B z/\mq B q<=mq B z/\∀y∈r,mq B y<=mq B z:=by
 obtain⟨m,_,h1,h2⟩:=MK (r.map (bg B)) (bg B q) (by rw[Ve];simp) (λx hx=>by
  obtain⟨y,_,rfl⟩:=u4.mp hx
  rw[Ve]
  simp)
 have hz:∃z,(z=q\/z∈r)/\bU (bg B q) (r.map (bg B))=bg B z:=by
  rcases m with m|m
  ·exact⟨q,.inl rfl,m⟩
  ·obtain⟨y,hy,e⟩:=u4.mp m
   exact⟨y,.inr hy,e.symm⟩
 obtain⟨z,hz,e⟩:=hz
 rw[e]at h1 h2
 refine⟨z,hz,e,?_,λy hy=>?_⟩
 ·have h1: -(mq B z)<=-(mq B q):=h1
  omega
 ·have: -(mq B z)<=-(mq B y):=h2 _ (u4.mpr ⟨y,hy,rfl⟩)
  omega
theorem NV{k:Int}(h:kj (qs.map (bg B))=some (p,k)):p∈qs/\k=mq B p/\k≠0/\∀y∈qs,mq B y<=k:=by
 cases qs with
 |nil=>cases h
 |cons q r=>
  obtain⟨z,hz,e,h1,h2⟩:=Bh B q r
  have h:(if(bU (bg B q) (r.map (bg B))).headD 0=0 then none else some ((bU (bg B q) (r.map (bg B))).getD 3 0,-((bU (bg B q) (r.map (bg B))).headD 0)))=some (p,k):=h
  rw[e]at h
  have hd:(bg B z).headD 0= -(mq B z):=rfl
  have h3:(bg B z).getD 3 0=z:=rfl
  rw[hd,h3]at h
  by_cases h0: -(mq B z)=0
  ·rw[aA h0]at h
   cases h
  ·rw[ax h0]at h
   have e1:z=p:=dA Prod.fst (cq h)
   have e2: - -(mq B z)=k:=dA Prod.snd (cq h)
   subst e1
   have e3:k=mq B z:=by omega
   refine⟨?_,e3,by omega,λy hy=>?_⟩
   ·rcases hz with rfl|hz
    ·exact bA
    ·exact cE _ hz
   ·rcases hZ.mp hy with rfl|hy
    ·omega
    ·have:=h2 y hy
     omega
theorem XN(h:kj (qs.map (bg B))=none):∀y∈qs,mq B y<=0:=by
 cases qs with
 |nil=>exact λy hy=>by simp at hy
 |cons q r=>
  obtain⟨z,hz,e,h1,h2⟩:=Bh B q r
  have h:(if(bU (bg B q) (r.map (bg B))).headD 0=0 then none else some ((bU (bg B q) (r.map (bg B))).getD 3 0,-((bU (bg B q) (r.map (bg B))).headD 0)))=none:=h
  rw[e]at h
  have hd:(bg B z).headD 0= -(mq B z):=rfl
  rw[hd]at h
  by_cases h0: -(mq B z)=0
  ·intro y hy
   rcases hZ.mp hy with rfl|hy
   ·omega
   ·have:=h2 y hy
    omega
  ·rw[ax h0]at h
   cases h
theorem Sv(a b:Int):mn a b<=a/\mn a b<=b:=by
 unfold mn
 split<;>omega
theorem zeJ(ps:B.Pos)(h:∀b,∀e∈B.at b,mq B e.ar<=0):yk B=false:=by
 unfold yk
 cases e1:B.aU with
 |nil=>rfl
 |cons x r=>
  cases e2:B.aV with
  |nil=>rfl
  |cons y t=>
   refine cW λkB=>?_
   have mx:x∈B.at true:=by show x∈B.aU;rw[e1];exact bA
   have my:y∈B.at false:=by show y∈B.aV;rw[e2];exact bA
   have px:=ps.ps _ x mx
   have py:=ps.ps _ y my
   have c1:0<=br true x.ar r:=rL λe he=>by
    have:=ps.ps true e (by show e∈B.aU;rw[e1];exact cE _ he)
    omega
   have c2:0<=br false x.ar t:=rL λe he=>by
    have:=ps.ps false e (by show e∈B.aV;rw[e2];exact cE _ he)
    omega
   have g1:br true x.ar B.aU=x.left+br true x.ar r:=by rw[e1];exact rW (fM _)
   have g2:br false x.ar B.aV=y.left+br false x.ar t:=by rw[e2];exact rW kB
   have top:=h true x mx
   have:=Al (k:=1) (a:=br true x.ar B.aU) (b:=br false x.ar B.aV) (by omega) (by omega)
   unfold mq at top
   omega
noncomputable def Bk.il(B:Bk):Bk:={B with aY:=false}
noncomputable def o_(B:Bk)(p:Int)(ts:aa (Int×Int×Int))(B':Bk):Prop:=
 ∃qs:aa Int,(∀p,p∈qs↔∃b,∃e∈B.at b,e.ar=p)/\((kj (qs.map (bg B))=none/\ts= []/\B'=B.il)\/∃k,kj (qs.map (bg B))=some (p,k)/\eT p B.il k ts B' 0)
theorem xX(ok:B.Ok):B.il.Ok:=⟨ok.so,ok.sd,ok.nd,ok.nx,ok.lt,ok.pl,ok.ct,ok.cm⟩
theorem xZ(ps:B.Pos):B.il.Pos:=⟨ps.ps⟩
theorem M4(ps:B.Pos)(q:Int):0<=mq B q/\mq B q<=ed B.aU/\mq B q<=ed B.aV:=by
 have p1:∀e∈B.aU,0<=e.left:=λe he=>by have:=ps.ps true e he;omega
 have p2:∀e∈B.aV,0<=e.left:=λe he=>by have:=ps.ps false e he;omega
 have a1:=rL (b:=true) (p:=q) p1
 have a2:=rL (b:=false) (p:=q) p2
 have b1:=ML (b:=true) (p:=q) p1
 have b2:=ML (b:=false) (p:=q) p2
 obtain⟨m1,m2⟩:=Sv (br true q B.aU) (br false q B.aV)
 refine⟨Al a1 a2,?_,?_⟩<;>unfold mq<;>omega
structure Xj(B:Bk)(ts:List (Int×Int×Int))(B':Bk):Prop where
 ok:B'.Ok
 ps:B'.Pos
 un:yk B'=false
 ca:B'.aG=B.aG
 cl:B'.aY=false
 nm:∀b,∀x∈B'.at b,∃y∈B.at b,y.num=x.num/\y.ar=x.ar/\y.owner=x.owner
 ln:ts.length<=300000
theorem o_.good(h:o_ B p ts B')(ok:B.Ok)(ps:B.Pos)(hl:B.aU.length+B.aV.length<=30):Xj B ts B':=by
 obtain⟨qs,mem,h⟩:=h
 rcases h with⟨h,rfl,rfl⟩ | ⟨k,h,tr⟩
 ·have hn:=XN h
  have un:=zeJ ps λb e he=>hn _ ((mem _).mpr ⟨b,e,he,rfl⟩)
  exact⟨xX ok,xZ ps,un,rfl,rfl,λb x hx=>⟨x,hx,rfl,rfl,rfl⟩,dD _⟩
 ·obtain⟨hp,hk,_,hm⟩:=NV h
  obtain⟨q0,q1,_⟩:=M4 ps p
  have g:=tr.good (xX ok) (xZ ps) (by omega)
  have un:=tr.aha (xX ok) (xZ ps) (by omega) λb e he=>hm _ ((mem _).mpr ⟨b,e,he,rfl⟩)
  have t1:=Ov (xs:=B.aU) λe he=>by have:=ps.ps true e he;omega
  have t2:=g.ln
  exact⟨g.ok,g.ps,un,g.ca,g.cl,g.nm,by omega⟩
section
variable {bW:ah} {a:c_} {n:fe} {u:fF}
theorem To:bc ["book","best"] ["book"] (aX MH):=bw
inductive afr(c:Cs)(vs:List V)(H:Hp)(Q:VK)(_:XK):Prop
 |mk (g:Ga) (B:Bk) (_:vs= [.ref g.b]) (_:Rep c H g B) (_:B.aU.length+B.aV.length<=30) (_:∀(qs:List Int) (H':Hp),aL H H'->(∀p,p∈qs↔∃b,∃e∈B.at b,e.ar=p)->(kj (qs.map (bg B))=none->Q .aE H')/\∀p k t,kj (qs.map (bg B))=some (p,k)->H' t=none->Q (.ref t) (upd H' t (.tup [.int p,.int k])))
theorem ziU(C:bR K mg c)(F:da K mg a c)(N:jl K mg c n)(U:jK K mg u)(Z:jL mg):Kp P w K mg base 4 u.jN ["book"] (afr c):=U.jN.kp λfd G=>by
 obtain⟨cK,G1,b1,k1⟩:=zgK (P:=P) (w:=w) (base:=base) C F N U Z
 refine G.bT To λ_ _ _ _ _ _ _ _ hr h=>?_
 obtain⟨g,B,rfl,R,hlen,q⟩:=h
 have hu:=fc hr
 refine⟨_,az (aZ 1 To.nd (Vt (zk1 rfl hu) (by rfl) C.min (by decide+kernel) (av (bG G1 hr U.Qe k1 b1 (av (pv 0) ay)) ay) g_))
  (az (bK (PW.pt (jE (gB (jA (pv 1))) (jz (bC cQ (lB (pv 1)) aF (a9 _))))) (aD (a8 g_)) bZ)
  (aD (a8 (eM (av (lB (pv 1)) (av (AB BR (lB (pv 1))) ay)))))),?_⟩
 refine(rX rfl ⟨g,B,rfl,R,hlen,λl wv qs H1 s1 hl rows mem=>?_⟩)
 obtain⟨qn,pL⟩:=q qs H1 s1 mem
 refine⟨l,wv,rX rfl ⟨hl,rows,λe=>(rX rfl (rX rfl (bL (bL (qn (by rw[e];rfl)))))),λb r e t ht=>?_⟩⟩
 cases qs with
 |nil=>cases e
 |cons q0 r0=>
  have e:bg B q0::r0.map (bg B)=b::r:=e
  injection e with eb er
  subst eb er
  obtain⟨z,_,ez,_,_⟩:=Bh B q0 r0
  have i4:kj ((q0::r0).map (bg B))=if-(mq B z)=0 then none else some (z,- -(mq B z)):=by
   show(if(bU (bg B q0) (r0.map (bg B))).headD 0=0 then none else some ((bU (bg B q0) (r0.map (bg B))).getD 3 0,-((bU (bg B q0) (r0.map (bg B))).headD 0)))=_
   rw[ez]
   rfl
  rw[ez]at ht
  have ht:H1 t=some (.tup [.int (-(mq B z)),.int (vu (br true z B.aU-br false z B.aV)),.int (pf z B.last),.int z]):=ht
  refine(rX rfl (rX rfl (bF (rX rfl (rT t 0 rfl rfl (aM.of ht) (bf (j:=0) rfl) ⟨rfl,rX rfl ?_⟩)))))
  by_cases h0: -(mq B z)=0
  ·rw[aA h0]at i4
   have dd:decide (V.int (-(mq B z))=V.int 0)=true:=by simp[h0]
   exact bY dd (qn i4)
  ·rw[ax h0]at i4
   have dd:decide (V.int (-(mq B z))=V.int 0)=false:=by simp[h0]
   refine bj dd ?_
   exact(rX rfl (rT t 3 rfl rfl (aM.of ht) (bf (j:=3) rfl) (rX rfl (rT t 0 rfl rfl (aM.of ht) (bf (j:=0) rfl) (rX rfl ⟨(by rw[a7];show 2<=16777216;decide),λp hp=>pL _ _ p i4 hp⟩)))))
theorem Tw:bc ["book","agreed"] ["book"] (aX Nv):=bw
inductive agh(nn:Addr)(c:Cs)(vs:List V)(H:Hp)(Q:VK)(E:XK):Prop
 |mk (g:Ga) (B:Bk) (_:vs= [.ref g.b]) (_:Rep c H g B) (_:B.Ok) (_:B.Pos) (_:B.aU.length+B.aV.length<=30) (_:(B.aY=false->∀x,E (.ref nn) x H)) (_:(B.aY=true->∀(p:Int) (ts:List (Int×Int×Int)) (B':Bk) (l:Addr) (tv:List V) (H':Hp),o_ B p ts B'->Rep c H' g B'->H' l=some (.lst tv)->oZ p H' tv ts->Fr H g B H' B'->Q (.ref l) H'))
theorem ab2(T:fP K mg bo nt nn be)(C:bR K mg c)(F:da K mg a c)(N:jl K mg c n)(U:jK K mg u)(Z:jL mg):Kp P w K mg base 5 u.jY ["book"] (agh nn c):=U.jY.kp λfd G=>by
 obtain⟨cK,G1,b1,k1⟩:=Bd (P:=P) (w:=w) (base:=base) C F
 obtain⟨dG,G2,b2,k2⟩:=ziU (P:=P) (w:=w) (base:=base) C F N U Z
 obtain⟨gY,G3,b3,k3⟩:=ab1 (P:=P) (w:=w) (base:=base) C F U
 refine G.ri Tw λ_ _ _ _ H _ _ _ hr h=>?_
 obtain⟨g,B,rfl,R,ok,ps,hlen,q1,q2⟩:=h
 have b_:bB 1 _:=hr.mono (by decide)
 obtain⟨dxb,hb⟩:=id R.ob
 refine⟨_,az (bK (jd (e8 (m8 (pv 0) C.bS F.tW G1 b_ b1 .nil cO))) (aD (lR rfl rfl T.Ak T.xQ (lT λ_ _ _ h=>h) (av aJ ay))) bZ)
  (az (aZ 1 Tw.nd (bG G2 hr U.vM k2 b2 (av (pv 0) ay)))
  (az (dW (pv 0) iA rfl)
  (az (bK (gB (jA (pv 1))) (aD (a8 (fW ay))) bZ)
  (aD (a8 (bG G3 hr U.Qc k3 b3 (av (pv 0) (av (lB (pv 1)) (av (lB (pv 1)) ay))))))))),?_⟩
 refine(rX rfl (rM g.b dxb rfl hb rfl ⟨g,B,rfl,R,rX rfl ?_⟩))
 show if(!B.aY)=true then _ else _
 cases hc:B.aY with
 |false=>exact bL ⟨kG,q1 hc⟩
 |true=>
  refine bF (rX rfl ⟨g,B,rfl,R,hlen,λqs H1 s1 mem=>⟨λhn=>?_,λp k t i4 ht=>?_⟩⟩)
  ·have R1:=aL.rep s1 R
   obtain⟨vE,fm⟩:=id R1.ob
   refine(rX rfl ⟨g.b,c.B,vE,rX rfl ⟨fm,C.bS,C.b5,(by show 7<1000;decide),?_⟩⟩)
   refine(rX rfl (rX rfl (bL ⟨(by rw[a7];show 0<=16777216;decide),λl hl=>?_⟩)))
   have R2:Rep c (upd H1 g.b (.ins c.B vE (nh g.nb g.ds g.de B.places false B.last B.bE))) g B.il:=NP (B':=B.il) R1 fm rfl rfl rfl rfl
   refine q2 hc 0 [] B.il l [] _ ⟨qs,mem,.inl ⟨hn,rfl,rfl⟩⟩ (aL.rep (aQ hl) R2) aB .nil ⟨λx o hx nf=>?_,λx f=>.inl f⟩
   refine aQ hl _ _ ?_
   rw[aw λz=>nf (.inl z)]
   exact s1 _ _ hx
  ·have R1:=aL.rep (aQ (o:=.tup [.int p,.int k]) ht) (aL.rep s1 R)
   have t1:upd H1 t (.tup [.int p,.int k]) t=some (.tup [.int p,.int k]):=aB
   have s2:aL H (upd H1 t (.tup [.int p,.int k])):=s1.trans (aQ ht)
   generalize upd H1 t (.tup [.int p,.int k])=H2 at*
   obtain⟨vE,fm⟩:=id R1.ob
   refine(rX rfl ⟨g.b,c.B,vE,rX rfl ⟨fm,C.bS,C.b5,(by show 7<1000;decide),?_⟩⟩)
   have R2:Rep c (upd H2 g.b (.ins c.B vE (nh g.nb g.ds g.de B.places false B.last B.bE))) g B.il:=NP (B':=B.il) R1 fm rfl rfl rfl rfl
   have t2:∀v,upd H2 g.b v t=some (.tup [.int p,.int k]):=λv=>(aw (aN 7 3 t1 fm)).trans t1
   obtain⟨hp,hk,zD,hm⟩:=NV i4
   obtain⟨m0,m1,m2⟩:=M4 ps p
   have b1:=Ov (xs:=B.aU) λe he=>by have:=ps.ps true e he;omega
   refine(rX rfl (rX rfl (bF (rX rfl (rX rfl (rT t 0 rfl rfl (aM.of (t2 _)) (bf (j:=0) rfl) (rX rfl (rT t 1 rfl rfl (aM.of (t2 _)) (bf (j:=1) rfl) ⟨g,B.il,p,k,rfl,R2,xX ok,xZ ps,by omega,?_,by omega,λts B' l tv H' tr R' hl Ma kp ft qF=>?_⟩))))))))
   ·intro b
    cases b
    ·show k<=ed B.aV
     omega
    ·show k<=ed B.aU
     omega
   ·refine q2 hc p ts B' l tv H' ⟨qs,mem,.inr ⟨k,i4,tr⟩⟩ R' hl Ma ⟨λx o hx nf=>?_,λx f=>.inl (ft x f)⟩
    refine kp x o ?_ nf
    rw[aw λz=>nf (.inl z)]
    exact s2 _ _ hx
end
open PySem L2
theorem zk7(ok:B.Ok){x:Ent}(h:B.at b=x::r)(hz:z∈B.at b):if b=true then z.ar<=x.ar else x.ar<=z.ar:=by
 have bx:=ok.sd b x (by rw[h];exact bA)
 have bz:=ok.sd b z hz
 have so:=ok.so b
 rw[h]at so hz
 have key:x.k1<=z.k1:=by
  rcases hZ.mp hz with rfl|hz
  ·exact fM _
  ·have:=(List.pairwise_cons.mp so).1 z hz
   rcases this with h1|h1<;>omega
 unfold Ent.k1 at key
 rw[bx,bz]at key
 cases b with
 |true=>
  rw[aA rfl,aA rfl]at key
  rw[aA rfl]
  omega
 |false=>
  rw[ax cb,ax cb]at key
  rw[ax cb]
  exact key
noncomputable def Within(B B':Bk):Prop:=∀b,∀x∈B'.at b,∃y∈B.at b,y.num=x.num/\y.ar=x.ar
theorem Bk.Ok.anew(ok:B.Ok)(he:e∈B.at e.au)(l s:Int)(r:ah):(((B.mod e l s).out (e.as l s)).put (e.as l s) r).Ok:=by
 have hm:=jZ he l s
 have bD:=ok.mod e l s
 obtain⟨q1,_⟩:=fG (B.mod e l s) e.au (dj (e.as l s) ((B.mod e l s).at e.au))
 obtain⟨q2,_⟩:=fG B e.au (eL e.num l s (B.at e.au))
 have hc:((B.mod e l s).out (e.as l s)).aG=B.aG:=q1.trans q2
 have bq:=ok.lt _ e he
 refine(bD.out _).put r bq.1 ?_ (λb x hx=>rQ bD hm hx) ?_
 ·rw[hc]
  exact bq.2
 ·rw[hc]
  have z1:=oE (B.mod e l s) e.au (dj (e.as l s) ((B.mod e l s).at e.au))
  have z2:(dj (e.as l s) ((B.mod e l s).at e.au)).length+1=((B.mod e l s).at e.au).length:=NR (bD.so _) hm
  have z3:=lS (B.mod e l s) e.au
  have z4:=oE B e.au (eL e.num l s (B.at e.au))
  have z5:=lS B e.au
  rw[Bs]at z4
  have z6:(B.mod e l s).aU.length+(B.mod e l s).aV.length=(B.at e.au).length+(B.at (!e.au)).length:=z4
  have z7:((B.mod e l s).out (e.as l s)).aU.length+((B.mod e l s).out (e.as l s)).aV.length=(dj (e.as l s) ((B.mod e l s).at e.au)).length+((B.mod e l s).at (!e.au)).length:=z1
  have h2:=ok.ct
  omega
theorem acI{k:Int}(h:fL k=true):1<=k/\k<=10000:=by
 unfold fL at h
 simp at h
 omega
theorem V6(ok:B.Ok)(ps:B.Pos)(he:e∈B.at e.au){k:Int}(hk:fL k=true)(r:ah):(B.chg e k r).Ok/\(B.chg e k r).Pos/\Within B (B.chg e k r)/\(B.chg e k r).aG=B.aG/\(B.chg e k r).aY=B.aY:=by
 obtain⟨k1,k2⟩:=acI hk
 have pe:=ps.ps _ e he
 obtain⟨m1,m2,m3,m4,m5⟩:=fG B e.au (eL e.num k e.shown (B.at e.au))
 obtain⟨o1,o2,o3,o4,o5⟩:=fG (B.mod e k e.shown) e.au (dj (e.as k e.shown) ((B.mod e k e.shown).at e.au))
 obtain⟨p1,p2,p3,p4,p5⟩:=uH ((B.mod e k e.shown).out (e.as k e.shown)) (e.as k e.shown) r
 obtain⟨n1,n2,n3,n4,n5⟩:=fG B e.au (eL e.num k (mn e.shown k) (B.at e.au))
 unfold Bk.chg
 split
 ·refine⟨ok.anew he k e.shown r,?_,λb x hx=>?_,p1.trans (o1.trans m1),p3.trans (o3.trans m3)⟩
  ·exact Bk.Pos.put ⟨λb x hx=>ps.ps b x (rG ok he _ _ hx).1⟩ r k1 k2 pe.2.2.2.1 pe.2.2.2.2.1 pe.2.2.2.2.2
  ·rcases j7 hx with⟨hb,q⟩ |hx
   ·subst q
    rw[hb]
    exact⟨e,he,rfl,rfl⟩
   ·exact⟨x,(rG ok he _ _ hx).1,rfl,rfl⟩
 ·obtain⟨w1,w2⟩:=Sv e.shown k
  refine⟨ok.mod e _ _,ps.mod e (Al (by omega) k1) w2 k2,λb x hx=>?_,n1,n3⟩
  obtain⟨y,hy,q⟩:=oH hx
  refine⟨y,hy,?_⟩
  rw[q]
  split<;>exact⟨rfl,rfl⟩
end Fb
namespace L2
open PySem
theorem aK.keep{a:PySem.Addr}{xs:aa V}(h:aK K H a xs)(k:∀o,H a=some o->H' a=some o):aK K H' a xs:=by
 rcases h with(h| ⟨o,h⟩) |h
 ·exact .inl (.inl (k _ h))
 ·exact .inl (.inr ⟨o,k _ h⟩)
 ·exact .inr h
noncomputable def agz(t:TS):TS:=λD σ H=>∃R:St->Hp->Prop,t {D with nx:=R} σ H/\∀σ' H',R σ' H'->D.nx σ' H'
theorem m9{t:TS}(h:PS X st t):PS X st (agz t):=by
 refine .mk ?_;intro pins s σ H D I h2
 obtain⟨R,h1,h2⟩:=h2
 refine gU (h pins s σ H {D with nx:=R} I h1) (λf s1 q=>?_) λ_ _ z=>z
 cases f with
 |next=>
  obtain⟨σ',H',I',q⟩:=q
  exact⟨σ',H',I',h2 _ _ q⟩
 |brk=>exact q
 |cont=>exact q
 |ret u=>exact q
end L2
namespace Fb
open PySem L2
structure gI where
 cell:Addr
 mix:Addr
 ar:Addr
 sU:Addr
 asked:Addr
structure nr(K:W.Frag)(mg:Str->Option Value)(bo nt nn be:Addr)(e:gI):Prop where
 cell:Dn K "_law_cell" "_law_cell" NL e.cell ["_law_script","_law_k"]
 PV:mg "_law_cell"=some (.ref e.cell)
 mix:Dn K "_law_mix" "_law_mix" N6 e.mix ["_law_script","_law_k"]
 qz:mg "_law_mix"=some (.ref e.mix)
 ar:Dn K "_law_price" "_law_price" MF e.ar ["_law_script","_law_k"]
 Qa:mg "_law_price"=some (.ref e.ar)
 sU:Dn K "_law_deed" "_law_deed" NK e.sU ["_law_script","_law_k"]
 P2:mg "_law_deed"=some (.ref e.sU)
 asked:Dn K "_law_asked" "_law_asked" MX e.asked ["_law_book","_law_deed_here"]
 PU:mg "_law_asked"=some (.ref e.asked)
 Uo:ki K bo
 Uq:ki K nt
 Up:ki K nn
 mB:W.mroIn K bo (.ref be)=some true
 mT:W.mroIn K nt (.ref be)=some true
 mN:W.mroIn K nn (.ref be)=some true
 Rr:W.kitOne K (.ref bo) (.ref bo)=some true
 Rv:W.kitOne K (.ref bo) (.ref nt)=some false
 Ru:W.kitOne K (.ref bo) (.ref nn)=some false
 RA:W.kitOne K (.ref nt) (.ref bo)=some false
 RC:W.kitOne K (.ref nt) (.ref nt)=some true
 RB:W.kitOne K (.ref nt) (.ref nn)=some false
 Rw:W.kitOne K (.ref nn) (.ref bo)=some false
 Rz:W.kitOne K (.ref nn) (.ref nt)=some false
 Ry:W.kitOne K (.ref nn) (.ref nn)=some true
 vB:W.kitOne K (.ref bo) (.type "ValueError")=some true
 vT:W.kitOne K (.ref nt) (.type "ValueError")=some true
 vN:W.kitOne K (.ref nn) (.type "ValueError")=some true
 tTT:W.kitOne K (.type "tuple") (.type "tuple")=some true
 tST:W.kitOne K (.type "str") (.type "tuple")=some false
 tIS:W.kitOne K (.type "int") (.type "str")=some false
 tSS:W.kitOne K (.type "str") (.type "str")=some true
 tBB:W.kitOne K (.type "bool") (.type "bool")=some true
 gi:mg "isinstance"=none
 gv:mg "ValueError"=none
 vV:mg "bool"=none
 YM:mg "str"=none
 vW:mg "tuple"=none
 DP:mg "range"=none
section
variable {bW:ah} {a:c_} {e:gI}
theorem Xs(ns:aa Int)(k:Int)(h:ns≠[]):∃v,kT (ns.map V.int) (k % ((ns.map V.int).length:Int))=some (.int v):=by
 have hl:0<ns.length:=by
  cases ns with
  |nil=>exact absurd rfl h
  |cons x r=>exact yL _
 rw[bH]
 have h1:=Int.emod_nonneg k (show(ns.length:Int)≠0 by omega)
 have h2:=Int.emod_lt_of_pos k (show(0:Int)< (ns.length:Int) by omega)
 obtain⟨j,hj⟩:∃j:Nat,k % (ns.length:Int)=(j:Int):=⟨(k % (ns.length:Int)).toNat,by omega⟩
 have qB:j<ns.length:=by omega
 refine⟨ns[j],?_⟩
 rw[hj]
 refine bf ?_
 rw[fN,jF qB]
 rfl
theorem aeH:bc ["_law_script","_law_k"] ["_law_script","_law_k"] (aX NL):=bw
inductive afw(K:W.Frag)(vs:List V)(H:Hp)(Q:VK)(_:XK):Prop
 |mk (s:Addr) (ns:List Int) (k:Int) (_:vs= [.ref s,.int k]) (_:aK K H s (ns.map V.int)) (_:∀v:Int,Q (.int v) H)
theorem abx(C:bR K mg c)(L:nr K mg bo nt nn be e):Kp P w K mg base 1 e.cell ["_law_script","_law_k"] (afw K):=L.cell.kp λfd G=>by
 refine G.bT aeH λ_ _ _ _ _ _ _ _ _ h=>?_
 obtain⟨sa,ns,k,rfl,hS,q⟩:=h
 refine⟨_,az (bK (Bp (pv 0) (λ_=>rfl)) (aD (a8 (cv g9 (pv 0) (ba e_ (pv 1) (c9 A5 (by rfl) C.len (by decide+kernel) (av (pv 0) ay))) (λ_ _=>rfl)))) bZ) (aD (a8 aF)),?_⟩
 refine(rX rfl ⟨_,.inl ⟨_,hS,rfl⟩,?_⟩)
 by_cases hn:ns= []
 ·subst hn
  exact bF (q 0)
 ·obtain⟨v,hv⟩:=Xs ns k hn
  have dc:(!(ns.map V.int).isEmpty)=true:=by
   cases ns with
   |nil=>exact absurd rfl hn
   |cons x r=>rfl
  rw[dc]
  have hl:0<ns.length:=by
   cases ns with
   |nil=>exact absurd rfl hn
   |cons x r=>exact yL _
  exact bL (rX rfl (rX rfl (rX rfl ⟨sa,rX rfl ⟨.inl hS,r2 rfl rfl ⟨(by show(0:Int)< ((ns.map V.int).length:Int);rw[bH];omega),sa,_,_,.int v,rfl,rfl,hS,hv,q v⟩⟩⟩)))
theorem LN:bc ["_law_script","_law_k","_law_number"] ["_law_script","_law_k"] (aX N6):=bw
inductive af1(K:W.Frag)(vs:List V)(H:Hp)(Q:VK)(_:XK):Prop
 |mk (s:Addr) (ns:List Int) (k:Int) (_:vs= [.ref s,.int k]) (_:aK K H s (ns.map V.int)) (_:∀v:Int,0<=v->v<4294967231->Q (.int v) H)
theorem Fl(C:bR K mg c)(L:nr K mg bo nt nn be e):Kp P w K mg base 2 e.mix ["_law_script","_law_k"] (af1 K):=L.mix.kp λfd G=>by
 obtain⟨cK,G1,b1,k1⟩:=abx (P:=P) (w:=w) (base:=base) C L
 refine G.bT LN λ_ _ _ _ _ _ _ _ hr h=>?_
 obtain⟨sa,ns,k,rfl,hS,q⟩:=h
 refine⟨_,az (aZ 2 LN.nd (ba e_ (ba gR (bG G1 hr L.PV k1 b1 (av (pv 0) (av (pv 1) ay))) (ba yz aF (ba gR (pv 1) aF))) aF))
  (az (aZ 2 LN.nd (ba e_ (ba yz (pv 2) aF) aF))
  (aD (a8 (ba e_ (ba gR (ba yz (ba g8 (pv 2) aF) aF) (pv 2)) aF)))),?_⟩
 refine(rX rfl (rX rfl ⟨sa,ns,k,rfl,hS,λv=>?_⟩))
 refine(rX rfl (r2 rfl rfl (r2 rfl rfl ⟨.inl ⟨by decide,by decide⟩,r2 rfl rfl (r2 rfl rfl ⟨(by show(0:Int)<4294967291;decide),?_⟩)⟩)))
 refine(rX rfl (r2 rfl rfl ⟨.inr ⟨by decide,by decide⟩,r2 rfl rfl ⟨(by show(0:Int)<4294967279;decide),?_⟩⟩))
 refine(rX rfl (r2 rfl rfl ⟨⟨by decide,by decide⟩,r2 rfl rfl ⟨.inr ⟨by decide,by decide⟩,rX rfl (r2 rfl rfl (r2 rfl rfl ⟨(by show(0:Int)<4294967231;decide),?_⟩))⟩⟩))
 exact q _ (Int.emod_nonneg _ (by decide)) (Int.emod_lt_of_pos _ (by decide))
theorem pick{i:Int}(h0:0<=i)(h1:i<L.length):∃v∈L,kT L i=some v:=by
 obtain⟨j,rfl⟩:∃j:Nat,i=(j:Int):=⟨i.toNat,by omega⟩
 have hj:j<L.length:=by omega
 exact⟨L[j],List.getElem_mem hj,bf (jF hj)⟩
theorem uF{p:ah}{i:Int}{Q:VK}(hp:H p=some (.lst L))(h0:0<=i)(h1:i<L.length)(q:∀v∈L,Q v H):ue K (.ref p) (.int i) H Q:=by
 obtain⟨v,hv,e⟩:=pick h0 h1
 exact⟨p,L,i,v,rfl,rfl,aK.of hp,e,q v hv⟩
theorem dM(n:Nat)(h:L.length=n)(hn:n<=1000:=by decide):L.length<=sizeLine:=by rw[a7,h];omega
theorem LP:bc ["_law_script","_law_k","_law_number","_law_base"] ["_law_script","_law_k"] (aX MF):=bw
inductive af7(K:W.Frag)(vs:List V)(H:Hp)(Q:VK)(_:XK):Prop
 |mk (s:Addr) (ns:List Int) (k:Int) (_:vs= [.ref s,.int k]) (_:aK K H s (ns.map V.int)) (_:∀(v:Int) (H':Hp),aL H H'->1<=v->v<=1000000000->Q (.int v) H')
theorem abW(C:bR K mg c)(L:nr K mg bo nt nn be e):Kp P w K mg base 3 e.ar ["_law_script","_law_k"] (af7 K):=L.ar.kp λfd G=>by
 obtain⟨cK,G1,b1,k1⟩:=Fl (P:=P) (w:=w) (base:=base) C L
 refine G.bT LP λ_ _ _ _ _ _ _ _ hr h=>?_
 obtain⟨sa,ns,k,rfl,hS,q⟩:=h
 refine⟨_,az (aZ 2 LP.nd (bG G1 hr L.qz k1 b1 (av (pv 0) (av (pv 1) ay))))
  (az (aZ 3 LP.nd (ba gR aF (ba e_ (bG G1 hr L.qz k1 b1 (av (pv 0) (av aF ay))) aF)))
  (aD (a8 (cv g9 (fW (av (ba gR (pv 3) (ba e_ (ba g8 (pv 2) aF) aF)) (av (ba gR (pv 3) (ba e_ (ba g8 (pv 2) aF) aF)) (av (pv 3) (av aF (av aF (av (ba gR (pv 3) (ba e_ (ba g8 (pv 2) aF) aF)) ay)))))))
   (ba e_ (pv 2) aF) (λ_ _=>rfl))))),?_⟩
 refine(rX rfl (rX rfl ⟨sa,ns,k,rfl,hS,λn ZZ Z0=>?_⟩))
 refine(rX rfl ⟨sa,ns,3,rfl,hS,λm tK pz=>(r2 rfl rfl ⟨(by show(0:Int)<999999980;decide),r2 rfl rfl ?_⟩)⟩)
 refine(rX rfl (rX rfl (r2 rfl rfl ⟨⟨by decide,by decide⟩,r2 rfl rfl ⟨(by show(0:Int)<6;decide),r2 rfl rfl ?_⟩⟩)))
 refine(rX rfl (rX rfl (r2 rfl rfl ⟨⟨by decide,by decide⟩,r2 rfl rfl ⟨(by show(0:Int)<6;decide),r2 rfl rfl ?_⟩⟩)))
 refine(rX rfl (rX rfl (rX rfl (r2 rfl rfl ⟨⟨by decide,by decide⟩,r2 rfl rfl ⟨(by show(0:Int)<15;decide),r2 rfl rfl ⟨dM 6 rfl,λp hp=>?_⟩⟩⟩))))
 refine(rX rfl (r2 rfl rfl ⟨(by show(0:Int)<6;decide),uF aB (by omega) (by show _< (6:Int);omega) λv hv=>?_⟩))
 simp only[hZ,u5,or_false]at hv
 rcases hv with rfl|rfl|rfl|rfl|rfl|rfl
 all_goals exact q _ _ (aQ hp) (by omega) (by omega)
end
end Fb
namespace L2
open PySem
section
theorem mU{k:Const}(ha:PE X (.Constant k j pos) te)(hr:PA X es t):PA X (.Constant k j pos::es) (du te t):=av ha hr rfl
theorem rn(ha:PE X (.Name x pos) te)(hr:PA X es t):PA X (.Name x pos::es) (du te t):=av ha hr rfl
theorem jV{a b:Expr}(ha:PE X (.Subscript a b pos) te)(hr:PA X es t):PA X (.Subscript a b pos::es) (du te t):=av ha hr rfl
theorem adM{a b:Expr}{o:Operator}(ha:PE X (.BinOp a o b pos) te)(hr:PA X es t):PA X (.BinOp a o b pos::es) (du te t):=av ha hr rfl
end
end L2
namespace Fb
open PySem L2
inductive Dd where
 |pl (ow:Int) (b:Bool) (pr:Option Int) (many:Int) (shows:Option Int) (way:Str)
 |ca (k j:Int)
 |ch (k j:Int)
 |cl (vs:List V)
 |un (k j:Int)
noncomputable def Dd.vals:Dd->aa V
 | .pl ow b pr many shows way=>[.str "place",.int ow,.str (aH b),oV pr,.int many,oV shows,.str way]
 | .ca k j=>[.str "cancel",.int k,.int j]
 | .ch k j=>[.str "change",.int k,.int j]
 | .cl vs=>.str "call"::vs
 | .un k j=>[.str "uncross",.int k,.int j]
noncomputable def Dd.Ok:Dd->Prop
 | .pl ow b pr many shows way=>(0<=ow/\ow<=3)/\(∀p,pr=some p->0<=p/\p<=1000000000)/\(pr=none->way≠"rest")/\1<=many/\many<=10000/\(∀s,shows=some s->1<=s/\s<=many/\way="rest")/\(way="rest"\/way="now"\/way="whole")
 | .cl _=>True
 | .ca k j| .ch k j| .un k j=>0<=k/\k<=15/\0<=j/\j<=10001
theorem Vf(h:way="rest"\/way="now"\/way="whole"):(reprText way).length<=2000/\way.length<=2000:=by
 rcases h with rfl|rfl|rfl
 all_goals decide+kernel
theorem Dd.small(h:(Dd.pl ow b pr many shows way).Ok):Small (aH b) pr many shows way:=by
 obtain⟨_,h1,_,h2,h3,h4,h5⟩:=h
 have e:(10:Nat)^30=1000000000000000000000000000000:=by decide
 refine⟨by cases b<;>decide+kernel,(Vf h5).1,(Vf h5).2,λi hi=>?_,by omega,λi hi=>?_⟩
 ·have:=h1 i hi
  omega
 ·have:=h4 i hi
  omega
section
variable {bW:ah} {a:c_} {e:gI}
theorem lI:bc ["_law_script","_law_k","_law_number","_law_word","_law_many","_law_way","_law_price_here","_law_shows"] ["_law_script","_law_k"] (aX NK):=bw
inductive afE(K:W.Frag)(vs:List V)(H:Hp)(Q:VK)(_:XK):Prop
 |mk (s:Addr) (ns:List Int) (k:Int) (_:vs= [.ref s,.int k]) (_:aK K H s (ns.map V.int)) (_:∀(dd:Dd) (t:Addr) (H':Hp),dd.Ok->aL H H'->H t=none->H' t=some (.tup dd.vals)->Q (.ref t) H')
theorem aL.seq{sa:ah}{xs:aa V}(s:aL H H')(h:aK K H sa xs):aK K H' sa xs:=h.keep λo ho=>s _ _ ho
theorem abB(C:bR K mg c)(L:nr K mg bo nt nn be e):Kp P w K mg base 4 e.sU ["_law_script","_law_k"] (afE K):=L.sU.kp λfd G=>by
 obtain⟨cK,G1,b1,k1⟩:=Fl (P:=P) (w:=w) (base:=base) C L
 obtain⟨dG,G2,b2,k2⟩:=abW (P:=P) (w:=w) (base:=base) C L
 refine G.bT lI λ_ _ _ s H _ _ _ hr h=>?_
 obtain⟨sa,ns,k,rfl,hS,q⟩:=h
 have di:bB 2 _:=hr.mono (by decide)
 refine⟨_,az (aZ 2 lI.nd (bG G1 di L.qz k1 b1 (av (pv 0) (av (pv 1) ay))))
  (az (aZ 3 lI.nd (cv g9 (fW (mU aJ (mU aJ (mU aJ (mU aJ (mU aJ (mU aJ (mU aJ (mU aJ (mU aJ (mU aJ ay))))))))))) (ba e_ (pv 2) aF) (λ_ _=>rfl)))
  (az (bK (bC hX (pv 3) aJ (a9 _)) (aD (a8 (eM (av (pv 3) (av (ba e_ (ba g8 (pv 2) aF) aF) (av (cv g9 (fW (av (ba e_ (ba g8 (pv 2) aF) aF) (av aF ay))) (ba g8 (ba e_ (ba g8 (pv 2) aF) aF) aF) (λ_ _=>rfl)) ay)))))) bZ)
  (az (aZ 4 lI.nd (ba gR aF (ba e_ (bG G1 di L.qz k1 b1 (av (pv 0) (av (ba gR (pv 1) aF) ay))) aF)))
  (az (aZ 5 lI.nd (cv g9 (fW (av aJ (av aJ (av aJ (av aJ (av aJ ay)))))) (ba e_ (ba g8 (pv 2) aF) aF) (λ_ _=>rfl)))
  (az (aZ 6 lI.nd (bG G2 hr L.Qa k2 b2 (av (pv 0) (av (ba gR (pv 1) aF) ay))))
  (az (aZ 7 lI.nd g_)
  (az (m9 (bK (PW.pt (iR (bC cQ (pv 5) aJ (a9 _)) (jD (bC cQ (ba e_ (ba g8 (pv 2) aF) aF) aF (a9 _)))))
   (aD (aZ 7 lI.nd (ba gR aF (ba e_ (ba g8 (pv 2) aF) (pv 4)))))
   (aD (bK (bC cQ (ba e_ (ba g8 (pv 2) aF) aF) aF (a9 _)) (aD (aZ 4 lI.nd (cv g9 (fW (av aF (av aF (av aF ay)))) (ba e_ (ba g8 (pv 2) aF) aF) (λ_ _=>rfl)))) bZ))))
  (az (m9 (bK (PW.pt (iR (bC hX (pv 5) aJ (a9 _)) (jD (bC cQ (ba e_ (ba g8 (pv 2) aF) aF) aF (a9 _))))) (aD (aZ 6 lI.nd g_)) bZ))
  (az (m9 (bK (bC cQ (ba e_ (ba g8 (pv 2) aF) aF) aF (a9 _)) (aD (aZ 6 lI.nd aF)) bZ))
  (aD (a8 (eM (rn (pv 3) (adM (ba e_ (ba g8 (pv 2) aF) aF) (jV (cv g9 (fW (av aJ (av aJ ay))) (ba e_ (ba g8 (pv 2) aF) aF) (λ_ _=>rfl)) (rn (pv 6) (rn (pv 4) (rn (pv 7) (rn (pv 5) ay))))))))))))))))))),?_⟩
 refine(rX rfl (rX rfl ⟨sa,ns,k,rfl,hS,λn ZZ Z0=>?_⟩))
 refine⟨dM 10 rfl,λp1 g0=>(rX rfl (r2 rfl rfl ⟨(by show(0:Int)<10;decide),uF aB (by omega) (by show _< (10:Int);omega) λv hv=>?_⟩))⟩
 have s1:=aQ (o:=.lst [.str "place",.str "place",.str "place",.str "place",.str "place",.str "place",.str "cancel",.str "change",.str "call",.str "uncross"]) g0
 generalize upd H p1 (.lst [.str "place",.str "place",.str "place",.str "place",.str "place",.str "place",.str "cancel",.str "change",.str "call",.str "uncross"])=H1 at*
 have hw:∃wd:Str,v= .str wd/\(wd="place"\/∃f:Int->Int->Dd,(∀i j,(f i j).vals= [.str wd,.int i,.int j])/\(∀i j,0<=i->i<=15->0<=j->j<=10001->(f i j).Ok)/\wd≠"place"):=by
  simp only[hZ,u5,or_false]at hv
  rcases hv with rfl|rfl|rfl|rfl|rfl|rfl|rfl|rfl|rfl|rfl
  all_goals first
   |exact⟨_,rfl,.inl rfl⟩
   |exact⟨_,rfl,.inr ⟨.ca,λ_ _=>rfl,λ_ _ h1 h2 h3 h4=>⟨h1,h2,h3,h4⟩,by decide+kernel⟩⟩
   |exact⟨_,rfl,.inr ⟨.ch,λ_ _=>rfl,λ_ _ h1 h2 h3 h4=>⟨h1,h2,h3,h4⟩,by decide+kernel⟩⟩
   |exact⟨_,rfl,.inr ⟨λk j=>.cl [.int k,.int j],λ_ _=>rfl,λ_ _ _ _ _ _=>trivial,by decide+kernel⟩⟩
   |exact⟨_,rfl,.inr ⟨.un,λ_ _=>rfl,λ_ _ h1 h2 h3 h4=>⟨h1,h2,h3,h4⟩,by decide+kernel⟩⟩
 obtain⟨wd,rfl,hw⟩:=hw
 refine(rX rfl ⟨rfl,rX rfl ?_⟩)
 rcases hw with rfl| ⟨f,fv,fo,dc⟩
 rotate_left
 ·have dd:(!decide (V.str wd=V.str ("place":Str)))=true:=by simp[dc]
  refine bY dd (rX rfl (rX rfl (r2 rfl rfl ⟨⟨by decide,by decide⟩,r2 rfl rfl ⟨(by show(0:Int)<16;decide),rX rfl (r2 rfl rfl ⟨⟨by decide,by decide⟩,r2 rfl rfl ⟨(by show(0:Int)<42;decide),dM 2 rfl,λp2 eV=>?_⟩⟩)⟩⟩)))
  refine(rX rfl (r2 rfl rfl ⟨⟨by decide,by decide⟩,r2 rfl rfl ⟨(by show(0:Int)<12;decide),r2 rfl rfl ⟨⟨by decide,by decide⟩,uF aB (by omega) (by show _< (2:Int);omega) λv2 gq=>?_⟩⟩⟩))
  have hj:∃j:Int,v2= .int j/\0<=j/\j<=10001:=by
   simp only[hZ,u5,or_false]at gq
   rcases gq with rfl|rfl
   ·exact(rX rfl ⟨by omega,by omega⟩)
   ·exact(rX rfl ⟨by decide,by decide⟩)
  obtain⟨j,rfl,j0,j1⟩:=hj
  refine⟨dM 3 rfl,λt ht=>?_⟩
  exact q (f (n / 10 % 16) j) t _ (fo _ j (by omega) (by omega) j0 j1) (s1.trans ((aQ eV).trans (aQ ht))) ((s1.trans (aQ eV)).free ht) (by rw[aB,fv])
 ·refine bF ?_
  refine⟨_,rfl,_,rfl,_,_,rfl,rfl,sa,ns,_,rfl,aL.seq s1 hS,λm tK pz=>⟨_,_,rfl,rfl,(by show(0:Int)<20;decide),_,_,rfl,rfl,?_⟩⟩
  refine⟨dM 5 rfl,λp2 eV=>(rX rfl (r2 rfl rfl ⟨⟨by decide,by decide⟩,r2 rfl rfl ⟨(by show(0:Int)<5;decide),uF aB (by omega) (by show _< (5:Int);omega) λv2 gq=>?_⟩⟩))⟩
  have s2:=aQ (o:=.lst [.str "rest",.str "rest",.str "rest",.str "now",.str "whole"]) eV
  generalize upd H1 p2 (.lst [.str "rest",.str "rest",.str "rest",.str "now",.str "whole"])=H2 at*
  have qU:∃way:Str,v2= .str way/\(way="rest"\/way="now"\/way="whole"):=by
   simp only[hZ,u5,or_false]at gq
   rcases gq with rfl|rfl|rfl|rfl|rfl
   ·exact(rX rfl (.inl rfl))
   ·exact(rX rfl (.inl rfl))
   ·exact(rX rfl (.inl rfl))
   ·exact(rX rfl (.inr (.inl rfl)))
   ·exact(rX rfl (.inr (.inr rfl)))
  obtain⟨way,rfl,qU⟩:=qU
  refine(rX rfl (rX rfl (r2 rfl rfl ⟨sa,ns,_,rfl,aL.seq (s1.trans s2) hS,λpr H3 s3 hp0 aak=>?_⟩)))
  have xI:aL H H3:=s1.trans (s2.trans s3)
  have pz:1<=1+m % 20/\1+m % 20<=20:=by omega
  refine⟨λσ' H'=>∃(mP:Int) (shows:ae Int),σ'= [some (.ref sa),some (.int k),some (.int n),some (.str "place"),some (.int mP),some (.str way),some (.int pr),some (oV shows)]/\aL H3 H'/\1<=mP/\mP<=10000/\∀s,shows=some s->1<=s/\s<=mP/\way="rest",?_,?_⟩
  ·refine(rX rfl ⟨rfl,rX rfl ?_⟩)
   refine OG (bF ?_) λhc x=>(rX rfl (r2 rfl rfl ⟨⟨by decide,by decide⟩,r2 rfl rfl ⟨(by show(0:Int)<3;decide),rfl,rX rfl ?_⟩⟩))
   ·refine(rX rfl (r2 rfl rfl ⟨⟨by decide,by decide⟩,r2 rfl rfl ⟨(by show(0:Int)<12;decide),rfl,rX rfl ?_⟩⟩))
    by_cases h5:n / 50 % 12=1
    ·have dd:decide (V.int (n / 50 % 12)=V.int 1)=true:=by simp[h5]
     refine bY dd ⟨dM 3 rfl,λp3 jS=>(rX rfl (r2 rfl rfl ⟨⟨by decide,by decide⟩,r2 rfl rfl ⟨(by show(0:Int)<3;decide),uF aB (by omega) (by show _< (3:Int);omega) λv3 Ro=>?_⟩⟩))⟩
     have hj:∃j:Int,v3= .int j/\1<=j/\j<=10000:=by
      simp only[hZ,u5,or_false]at Ro
      rcases Ro with rfl|rfl|rfl
      all_goals exact⟨_,rfl,by decide,by decide⟩
     obtain⟨j,rfl,j0,j1⟩:=hj
     exact⟨j,none,rfl,aQ jS,j0,j1,λs hs=>by cases hs⟩
    ·have dd:decide (V.int (n / 50 % 12)=V.int 1)=false:=by simp[h5]
     exact bj dd ⟨1+m % 20,none,rfl,aL.refl _,pz.1,by omega,λs hs=>by cases hs⟩
   ·by_cases h5:n / 50 % 3=0
    ·have dd:decide (V.int (n / 50 % 3)=V.int 0)=true:=by simp[h5]
     have E8:way="rest":=by simpa using hc
     refine bY dd (rX rfl (r2 rfl rfl ⟨⟨by decide,by decide⟩,rX rfl (r2 rfl rfl ⟨(by show 0<1+m % 20;omega),r2 rfl rfl ?_⟩)⟩))
     have z1:=Int.emod_nonneg (n / 150) (show 1+m % 20≠0 by omega)
     have z2:=Int.emod_lt_of_pos (n / 150) (show 0<1+m % 20 by omega)
     exact⟨1+m % 20,some (1+n / 150 % (1+m % 20)),rfl,aL.refl _,pz.1,by omega,λs hs=>by cases hs;exact⟨by omega,by omega,E8⟩⟩
    ·have dd:decide (V.int (n / 50 % 3)=V.int 0)=false:=by simp[h5]
     exact bj dd (Ob x)
  rintro σ4 H4 ⟨mP,shows,rfl,s4,m0,m1,lr⟩
  refine⟨λσ' H'=>∃n9:ae Int,σ'= [some (.ref sa),some (.int k),some (.int n),some (.str "place"),some (.int mP),some (.str way),some (oV n9),some (oV shows)]/\H'=H4/\(∀p,n9=some p->0<=p/\p<=1000000000)/\(n9=none->way≠"rest"),?_,?_⟩
  ·refine(rX rfl ⟨rfl,rX rfl ?_⟩)
   have ab7:∃n9:ae Int,([some (.ref sa),some (.int k),some (.int n),some (.str "place"),some (.int mP),some (.str way),some (.int pr),some (oV shows)]:St)= [some (.ref sa),some (.int k),some (.int n),some (.str "place"),some (.int mP),some (.str way),some (oV n9),some (oV shows)]/\H4=H4/\(∀p,n9=some p->0<=p/\p<=1000000000)/\(n9=none->way≠"rest"):=
    ⟨some pr,rfl,rfl,λp hp=>by cases hp;exact⟨by omega,aak⟩,λh=>by cases h⟩
   refine OG (bF ab7) λhc x=>(rX rfl (r2 rfl rfl ⟨⟨by decide,by decide⟩,r2 rfl rfl ⟨(by show(0:Int)<3;decide),rfl,rX rfl ?_⟩⟩))
   by_cases h5:n / 50 % 3=0
   ·have dd:decide (V.int (n / 50 % 3)=V.int 0)=true:=by simp[h5]
    have E8:way≠"rest":=by simpa using hc
    exact bY dd ⟨none,rfl,rfl,λp hp=>(by cases hp),λ_=>E8⟩
   ·have dd:decide (V.int (n / 50 % 3)=V.int 0)=false:=by simp[h5]
    exact bj dd (Ob x)
  rintro σ5 H5 ⟨n9,rfl,rfl,ES,hpn⟩
  refine⟨λσ' H'=>∃xF:ae Int,σ'= [some (.ref sa),some (.int k),some (.int n),some (.str "place"),some (.int mP),some (.str way),some (oV xF),some (oV shows)]/\H'=H5/\(∀p,xF=some p->0<=p/\p<=1000000000)/\(xF=none->way≠"rest"),?_,?_⟩
  ·refine(rX rfl (r2 rfl rfl ⟨⟨by decide,by decide⟩,r2 rfl rfl ⟨(by show(0:Int)<24;decide),rfl,rX rfl ?_⟩⟩))
   by_cases h5:n / 150 % 24=0
   ·have dd:decide (V.int (n / 150 % 24)=V.int 0)=true:=by simp[h5]
    exact bY dd ⟨some 0,rfl,rfl,λp hp=>by cases hp;exact⟨by decide,by decide⟩,λh=>by cases h⟩
   ·have dd:decide (V.int (n / 150 % 24)=V.int 0)=false:=by simp[h5]
    exact bj dd ⟨n9,rfl,rfl,ES,hpn⟩
  rintro σ6 H6 ⟨xF,rfl,rfl,Q8,gk⟩
  refine(rX rfl (rX rfl (r2 rfl rfl ⟨⟨by decide,by decide⟩,r2 rfl rfl ⟨(by show(0:Int)<4;decide),dM 2 rfl,λp7 nU=>(rX rfl (r2 rfl rfl ⟨⟨by decide,by decide⟩,r2 rfl rfl ⟨(by show(0:Int)<2;decide),uF aB (by omega) (by show _< (2:Int);omega) λv7 Rp=>?_⟩⟩))⟩⟩)))
  have hb:∃b:ai,v7= .str (aH b):=by
   simp only[hZ,u5,or_false]at Rp
   rcases Rp with rfl|rfl
   ·exact⟨true,rfl⟩
   ·exact⟨false,rfl⟩
  obtain⟨b,rfl⟩:=hb
  refine(rX rfl (rX rfl (rX rfl (rX rfl ⟨dM 7 rfl,λt ht=>?_⟩))))
  have Th:aL H (upd H6 p7 (.lst [.str "buy",.str "sell"])):=xI.trans (s4.trans (aQ nU))
  exact q (.pl (n / 3600 % 4) b xF mP shows way) t _ ⟨⟨by omega,by omega⟩,Q8,gk,m0,m1,lr,qU⟩ (Th.trans (aQ ht)) (Th.free ht) aB
end
open PySem L2
inductive iU where
 |str (x:Str)
 |num (k:Int)
 |aE
 |placed (k:Int) (aS:List Ev)
 |mZ (p:Int) (ts:List (Int×Int×Int))
noncomputable def qi(H:Hp)(v:V):iU->Prop
 | .str x=>v= .str x
 | .num k=>v= .int k
 | .aE=>v= .aE
 | .placed k aS=>∃(t l:ah) (ts:aa V),v= .ref t/\H t=some (.tup [.int k,.ref l])/\H l=some (.lst ts)/\oN H ts aS/\aS.length<=11000
 | .mZ p ts=>∃(l:ah) (tv:aa V),v= .ref l/\H l=some (.lst tv)/\oZ p H tv ts/\ts.length<=300000
inductive fY(B:Bk):Dd->iU->Bk->Prop
 |bad {ow b pr many shows way:_}:dN (aH b) pr many shows way=false->fY B (.pl ow b pr many shows way) (.str "bad") B
 |now {ow b pr many shows way:_}:dN (aH b) pr many shows way=true->B.aY=true->way≠"rest"->fY B (.pl ow b pr many shows way) (.str "now") B
 |pl {ow b pr many shows way aS B':_}:dN (aH b) pr many shows way=true->(B.aY=true->way="rest")->uL B ow b pr many shows way aS B'->fY B (.pl ow b pr many shows way) (.placed B.aG aS) B'
 |ca {k j e:_}:e∈B.at e.au->e.num=k->fY B (.ca k j) (.num e.left) (B.out e)
 |vv {k j:_}:(∀b,∀e∈B.at b,e.num≠k)->fY B (.ca k j) (.str "none") B
 |ch {k j e r:_}:e∈B.at e.au->e.num=k->fL j=true->fY B (.ch k j) .aE (B.chg e j r)
 |qo {k j e:_}:e∈B.at e.au->e.num=k->fL j=false->fY B (.ch k j) (.str "bad") B
 |sS {k j:_}:(∀b,∀e∈B.at b,e.num≠k)->fY B (.ch k j) (.str "none") B
 |cl {vs:_}:B.aY=false->fY B (.cl vs) .aE {B with aY:=true}
 |vC {vs:_}:B.aY=true->fY B (.cl vs) (.str "now") B
 |un {k j p ts B':_}:B.aY=true->o_ B p ts B'->fY B (.un k j) (.mZ p ts) B'
 |xO {k j:_}:B.aY=false->fY B (.un k j) (.str "now") B
section
variable {bW:ah} {a:c_} {n:fe} {u:fF} {e:gI}
theorem YC(ok:B.Ok){e:Ent}(he:e∈B.at e.au){k:Int}{r x:ah}(f:bI g (B.chg e k r) x):bI g B x:=by
 have hm:=jZ he k e.shown
 have so:eN ((B.mod e k e.shown).at (e.as k e.shown).au):=(ok.mod e _ _).so _
 unfold Bk.chg at f
 split at f
 ·rcases Nu f with z|z
  ·exact oz (pR so hm z)
  ·exact .inr (.inr (.inr (.inr (.inr ⟨_,e,he,z⟩))))
 ·exact oz f
theorem mY:bc ["_law_book","_law_deed_here","_law_kept","_law_found","e","_law_kinds"] ["_law_book","_law_deed_here"] (aX MX):=bw
inductive afo(c:Cs)(vs:List V)(H:Hp)(Q:VK)(_:XK):Prop
 |mk (g:Ga) (B:Bk) (t:Addr) (dd:Dd) (_:vs= [.ref g.b,.ref t]) (_:Rep c H g B) (_:B.Ok) (_:B.Pos) (_:B.aG<=30) (_:H t=some (.tup dd.vals)) (_:dd.Ok) (_:∀(v:V) (f_:iU) (B':Bk) (H':Hp),fY B dd f_ B'->qi H' v f_->Rep c H' g B'->B'.Ok->B'.Pos->B'.aG<=B.aG+1->Fr H g B H' B'->Q v H')
theorem abr(T:fP K mg bo nt nn be)(O:jJ K mg bW gw)(C:bR K mg c)(F:da K mg a c)(D:oY K mg d)(M:qk K mg m)(N:jl K mg c n)(U:jK K mg u)(Z:jL mg)(L:nr K mg bo nt nn be e):
  Kp P w K mg base 8 e.asked ["_law_book","_law_deed_here"] (afo c):=L.asked.kp λfd G=>by
 obtain⟨cK,G1,b1,k1⟩:=abU (P:=P) (w:=w) (base:=base) T O C F D M
 obtain⟨dG,G2,b2,k2⟩:=abv (P:=P) (w:=w) (base:=base) T C F N
 obtain⟨gY,G3,b3,k3⟩:=aby (P:=P) (w:=w) (base:=base) T O C F N
 obtain⟨kX,G4,b4,k4⟩:=abt (P:=P) (w:=w) (base:=base) T C F N
 obtain⟨mh,G5,b5,k5⟩:=ab2 (P:=P) (w:=w) (base:=base) T C F N U Z
 refine G.bT mY λ_ _ _ _ H vs _ E hr h=>?_
 obtain⟨g,B,t,dd,rfl,R,ok,ps,mr,ht,dY,q⟩:=h
 have ET:bB 5 _:=hr.mono (by decide)
 have wN:bB 4 _:=hr.mono (by decide)
 have tN:bB 3 _:=hr.mono (by decide)
 have di:bB 2 _:=hr.mono (by decide)
 refine⟨_,az (aZ 2 mY.nd g_) (az (aZ 3 mY.nd g_)
  (az (ad5 (i:=2) (j:=4) (E:=λC' _ H'=>∃x:Str,fY B dd (.str x) B/\aL H H'/\((C'= .ref bo/\x="bad")\/(C'= .ref nt/\x="none")\/(C'= .ref nn/\x="now"))) mY.nd rfl rfl (by decide) rfl rfl rfl rfl (by rfl) T.acQ T.xBE (λC' x H' h=>by
    obtain⟨_,_,_,h⟩:=h
    rcases h with⟨h,_⟩ | ⟨h,_⟩ | ⟨h,_⟩
    ·cases h
     exact⟨T.ot,L.mB⟩
    ·cases h
     exact⟨T.Mp,L.mT⟩
    ·cases h
     exact⟨T.xQ,L.mN⟩)
   (λpn xe hp=>aD (bK (bC cQ (cv (r:=dC K) dI (pv 1) aF (λ_ _=>rfl)) aJ (a9 _))
    (aD (aZ 3 mY.nd (kI G1 hr rfl D.vS k1 b1 .nil hp (rn (pv 0) (jV (cv (r:=dC K) dI (pv 1) aF (λ_ _=>rfl)) (jV (cv (r:=dC K) dI (pv 1) aF (λ_ _=>rfl)) (jV (cv (r:=dC K) dI (pv 1) aF (λ_ _=>rfl)) (jV (cv (r:=dC K) dI (pv 1) aF (λ_ _=>rfl)) (jV (cv (r:=dC K) dI (pv 1) aF (λ_ _=>rfl)) (jV (cv (r:=dC K) dI (pv 1) aF (λ_ _=>rfl)) ay))))))))))
    (aD (bK (bC cQ (cv (r:=dC K) dI (pv 1) aF (λ_ _=>rfl)) aJ (a9 _))
     (aD (aZ 3 mY.nd (kI G2 tN rfl N.vO k2 b2 .nil hp (av (pv 0) (av (cv (r:=dC K) dI (pv 1) aF (λ_ _=>rfl)) ay)))))
     (aD (bK (bC cQ (cv (r:=dC K) dI (pv 1) aF (λ_ _=>rfl)) aJ (a9 _))
      (aD (aZ 3 mY.nd (kI G3 wN rfl N.vP k3 b3 .nil hp (av (pv 0) (av (cv (r:=dC K) dI (pv 1) aF (λ_ _=>rfl)) (av (cv (r:=dC K) dI (pv 1) aF (λ_ _=>rfl)) ay))))))
      (aD (bK (bC cQ (cv (r:=dC K) dI (pv 1) aF (λ_ _=>rfl)) aJ (a9 _))
       (aD (aZ 3 mY.nd (kI G4 di rfl N.vL k4 b4 .nil hp (av (pv 0) ay))))
       (aD (aZ 3 mY.nd (kI G5 ET rfl U.vU k5 b5 .nil hp (av (pv 0) ay)))))))))))))
  (az (bK (gB (jA (pv 2))) (aD (a8 (pv 3))) bZ)
  (az (aZ 5 mY.nd (fW (av (c9 kH (by rfl) L.gi (by decide+kernel) (av (pv 2) (av (rO T.pH) ay)))
   (av (c9 kH (by rfl) L.gi (by decide+kernel) (av (pv 2) (av (rO T.Sn) ay)))
   (av (c9 kH (by rfl) L.gi (by decide+kernel) (av (pv 2) (av (rO T.Ak) ay))) ay)))))
  (az (bK (PW.pt (jE (bC hX (lX l8 PySem.F.slot_list_count PySem.F.type_list_count zj4 (pv 5) (av iA ay)) aF (a9 _)) (jz (jd (e8 (c9 kH (by rfl) L.gi (by decide+kernel) (av (pv 2) (av (oG (v:=.ty "ValueError") (by rfl) L.gv (by decide+kernel) rfl) ay)))))))) (aD (a8 aJ)) bZ)
  (aD (a8 (cv g9 (fW (av aJ (av aJ (av aJ ay)))) (lX l8 PySem.F.slot_list_index PySem.F.type_list_index zj3 (pv 5) (av iA ay)) (λ_ _=>rfl))))))))),?_⟩
 have D2:((B.aU.length+B.aV.length:Nat):Int)<=B.aG:=ok.ct
 have Pt:(10:Nat)^30=1000000000000000000000000000000:=by decide
 refine⟨?_,?_⟩
 ·cases dd with
  |pl ow b pr many shows way=>
   refine(rX rfl (rT t 0 rfl rfl (aM.of ht) (bf (j:=0) rfl) ⟨rfl,rX rfl (bY rfl ?_)⟩))
   refine(rX rfl (rX rfl (rT t 1 rfl rfl (aM.of ht) (bf (j:=1) rfl) (rX rfl (rT t 2 rfl rfl (aM.of ht) (bf (j:=2) rfl) (rX rfl (rT t 3 rfl rfl (aM.of ht) (bf (j:=3) rfl) (rX rfl (rT t 4 rfl rfl (aM.of ht) (bf (j:=4) rfl) (rX rfl (rT t 5 rfl rfl (aM.of ht) (bf (j:=5) rfl) (rX rfl (rT t 6 rfl rfl (aM.of ht) (bf (j:=6) rfl) ?_)))))))))))))
   refine⟨g,B,ow,aH b,pr,many,shows,way,rfl,R,ok,ps,by omega,Dd.small dY,λhb x H' s'=>⟨_,.bad hb,s',.inl ⟨rfl,rfl⟩⟩,λhg hc hw x H' s'=>⟨_,.now hg hc hw,s',.inr (.inr ⟨rfl,rfl⟩)⟩,?_⟩
   intro hg Zi b' t' l ts aS H' B' cZ EY wu nP hlen eX R' fg ps' ajW pk DD
   have gO:b'=b:=by
    cases b<;>cases b'<;>first|rfl|exact absurd cZ (by decide+kernel)
   subst gO
   exact(rX rfl (rX rfl (bL (rX rfl (q _ (.placed B.aG aS) B' H' (.pl hg Zi eX) ⟨t',l,ts,rfl,EY,wu,nP,hlen⟩ R' fg ps' (by omega) DD)))))
  |ca k j=>
   refine(rX rfl (rT t 0 rfl rfl (aM.of ht) (bf (j:=0) rfl) ⟨rfl,rX rfl (bj rfl ?_)⟩))
   refine(rX rfl (rT t 0 rfl rfl (aM.of ht) (bf (j:=0) rfl) ⟨rfl,rX rfl (bY rfl ?_)⟩))
   obtain⟨h1,h2,_,_⟩:=dY
   refine(rX rfl (rX rfl (rT t 1 rfl rfl (aM.of ht) (bf (j:=1) rfl) ⟨g,B,k,rfl,R,ok,by omega,λx hx hn H' R' f'=>?_,λdh x=>⟨_,.vv dh,aL.refl _,.inr (.inl ⟨rfl,rfl⟩)⟩⟩)))
   obtain⟨q1,_⟩:=fG B x.au (dj x (B.at x.au))
   have q1:(B.out x).aG=B.aG:=q1
   exact(rX rfl (rX rfl (bL (rX rfl (q _ (.num x.left) (B.out x) H' (.ca hx hn) rfl R' (ok.out x) (ps.out x) (by omega) ⟨f',λy f=>.inl (pR (ok.so _) hx f)⟩)))))
  |ch k j=>
   refine(rX rfl (rT t 0 rfl rfl (aM.of ht) (bf (j:=0) rfl) ⟨rfl,rX rfl (bj rfl ?_)⟩))
   refine(rX rfl (rT t 0 rfl rfl (aM.of ht) (bf (j:=0) rfl) ⟨rfl,rX rfl (bj rfl ?_)⟩))
   refine(rX rfl (rT t 0 rfl rfl (aM.of ht) (bf (j:=0) rfl) ⟨rfl,rX rfl (bY rfl ?_)⟩))
   obtain⟨h1,h2,h3,h4⟩:=dY
   refine(rX rfl (rX rfl (rT t 1 rfl rfl (aM.of ht) (bf (j:=1) rfl) (rX rfl (rT t 2 rfl rfl (aM.of ht) (bf (j:=2) rfl) ⟨g,B,k,j,rfl,R,ok,by omega,by omega,λx hx hn hm r H' R' f'=>?_,λx hx hn hm y=>⟨_,.qo hx hn hm,aL.refl _,.inl ⟨rfl,rfl⟩⟩,λdh x=>⟨_,.sS dh,aL.refl _,.inr (.inl ⟨rfl,rfl⟩)⟩⟩)))))
   obtain⟨c1,c2,_,c4,_⟩:=V6 ok ps hx hm r
   exact(rX rfl (rX rfl (bL (rX rfl (q _ .aE (B.chg x j r) H' (.ch hx hn hm) rfl R' c1 c2 (by omega) ⟨f',λy f=>.inl (YC ok hx f)⟩)))))
  |cl vs=>
   refine(rX rfl (rT t 0 rfl rfl (aM.of ht) (bf (j:=0) rfl) ⟨rfl,rX rfl (bj rfl ?_)⟩))
   refine(rX rfl (rT t 0 rfl rfl (aM.of ht) (bf (j:=0) rfl) ⟨rfl,rX rfl (bj rfl ?_)⟩))
   refine(rX rfl (rT t 0 rfl rfl (aM.of ht) (bf (j:=0) rfl) ⟨rfl,rX rfl (bj rfl ?_)⟩))
   refine(rX rfl (rT t 0 rfl rfl (aM.of ht) (bf (j:=0) rfl) ⟨rfl,rX rfl (bY rfl ?_)⟩))
   refine(rX rfl ⟨g,B,rfl,R,λhc x=>⟨_,.vC hc,aL.refl _,.inr (.inr ⟨rfl,rfl⟩)⟩,λhc H' R' f'=>?_⟩)
   exact(rX rfl (rX rfl (bL (rX rfl (q _ .aE _ H' (.cl hc) rfl R' ⟨ok.so,ok.sd,ok.nd,ok.nx,ok.lt,ok.pl,ok.ct,ok.cm⟩ ⟨ps.ps⟩ (by show B.aG<=B.aG+1;omega) ⟨λx o hx nf=>by rw[f' x λz=>nf (.inl z)];exact hx,λx f=>.inl f⟩)))))
  |un k j=>
   refine(rX rfl (rT t 0 rfl rfl (aM.of ht) (bf (j:=0) rfl) ⟨rfl,rX rfl (bj rfl ?_)⟩))
   refine(rX rfl (rT t 0 rfl rfl (aM.of ht) (bf (j:=0) rfl) ⟨rfl,rX rfl (bj rfl ?_)⟩))
   refine(rX rfl (rT t 0 rfl rfl (aM.of ht) (bf (j:=0) rfl) ⟨rfl,rX rfl (bj rfl ?_)⟩))
   refine(rX rfl (rT t 0 rfl rfl (aM.of ht) (bf (j:=0) rfl) ⟨rfl,rX rfl (bj rfl ?_)⟩))
   refine(rX rfl ⟨g,B,rfl,R,ok,ps,by omega,λhc x=>⟨_,.xO hc,aL.refl _,.inr (.inr ⟨rfl,rfl⟩)⟩,λhc p ts B' l tv H' hu R' wu Ma DD=>?_⟩)
   have gd:=hu.good ok ps (by omega)
   have:=gd.ca
   exact(rX rfl (rX rfl (bL (rX rfl (q _ (.mZ p ts) B' H' (.un hc hu) ⟨l,tv,rfl,wu,Ma,gd.ln⟩ R' gd.ok gd.ps (by omega) DD)))))
 ·intro C' x H' ⟨f_,Zo,s',hC⟩ hx
  have ex:upd H' x (jO x C') x=some (jO x C'):=aB
  have s1:aL H (upd H' x (jO x C')):=s'.trans (aQ hx)
  obtain⟨xC,xL,k1,k2,k3,j,h1,h2,h3,h4,Zf,hj,Ei,ha⟩:iD K C'/\ki K C'/\∃(k1 k2 k3:ai) (j:Nat),W.kitOne K (.ref C') (.ref bo)=some k1/\W.kitOne K (.ref C') (.ref nt)=some k2/\W.kitOne K (.ref C') (.ref nn)=some k3/\W.kitOne K (.ref C') (.type "ValueError")=some true/\
    [k1,k2,k3].countP id=1/\[k1,k2,k3][j]?=some true/\(∀i,i<j->[k1,k2,k3][i]?=some false)/\([.str "bad",.str "none",.str "now"]:aa V)[j]?=some (.str f_):=by
   rcases hC with⟨h,rfl⟩ | ⟨h,rfl⟩ | ⟨h,rfl⟩
   ·cases h
    exact⟨T.ot,L.Uo,true,false,false,0,L.Rr,L.Rv,L.Ru,L.vB,rfl,rfl,λi hi=>absurd hi (B_ _),rfl⟩
   ·cases h
    exact⟨T.Mp,L.Uq,false,true,false,1,L.RA,L.RC,L.RB,L.vT,rfl,rfl,λi (hi:i<1)=>(by rw[show i=0 by omega];rfl),rfl⟩
   ·cases h
    exact⟨T.xQ,L.Up,false,false,true,2,L.Rw,L.Rz,L.Ry,L.vN,rfl,rfl,λi (hi:i<2)=>(by rcases(show i=0\/i=1 by omega)with rfl|rfl<;>rfl),rfl⟩
  refine(rX rfl (rX rfl (bF ?_)))
  refine(rX rfl ⟨_,_,k1,rfl,rfl,.inr ⟨x,C',rfl,ex,xC,xL,h1⟩,rX rfl ⟨_,_,k2,rfl,rfl,.inr ⟨x,C',rfl,ex,xC,xL,h2⟩,rX rfl ⟨_,_,k3,rfl,rfl,.inr ⟨x,C',rfl,ex,xC,xL,h3⟩,dM 3 rfl,λp hp=>?_⟩⟩⟩)
  have Ys:=aQ (o:=.lst [.bl k1,.bl k2,.bl k3]) hp _ _ ex
  have lp:upd (upd H' x (jO x C')) p (.lst [.bl k1,.bl k2,.bl k3]) p=some (.lst ([k1,k2,k3].map V.bl)):=aB
  have s2:=s1.trans (aQ (o:=.lst [.bl k1,.bl k2,.bl k3]) hp)
  generalize upd (upd H' x (jO x C')) p (.lst [.bl k1,.bl k2,.bl k3])=H2 at*
  refine(rX rfl ⟨.inl ⟨rfl,_,aK.of lp⟩,p,rX rfl ⟨rfl,lp,rfl,rX rfl ?_⟩⟩)
  rw[Zf]
  refine bj (by simp) (rX rfl ⟨_,_,true,rfl,rfl,.inr ⟨x,C',rfl,Ys,xC,xL,h4⟩,rX rfl (bF ?_)⟩)
  refine⟨dM 3 rfl,λp2 eV=>?_⟩
  have Sd:=aQ (o:=.lst [.str "bad",.str "none",.str "now"]) eV _ _ lp
  refine⟨_,rfl,.inl ⟨rfl,_,aK.of Sd⟩,p,_,j,rfl,rfl,Sd,hj,Ei,p2,_,_,_,rfl,rfl,aK.of aB,bf ha,?_⟩
  have s3:=s2.trans (aQ (o:=.lst [.str "bad",.str "none",.str "now"]) eV)
  exact q _ (.str f_) B _ Zo rfl (aL.rep s3 R) ok ps (by omega) ⟨λy o hy _=>s3 _ _ hy,λy f=>.inl f⟩
end
end Fb
variable {f_ ia:Fb.iU}
namespace Sx
open PySem PySem.Spec PyProof.Rows PySem.W
noncomputable def dP(f:Nat->Int)(n:Nat){α:Type}:KasT α->(α->Prop)->Prop
 | .ret a,Q=>Q a
 | .ask i j k,Q=>i<n/\j<n/\dP f n (k (decide (f i<f j))) Q
theorem dP.bind{f:Nat->Int}{α β:Type}{g:α->KasT β}{Q:β->Prop}:∀{t:KasT α},dP f n t (λa=>dP f n (g a) Q)->dP f n (t.bind g) Q
 | .ret a,h=>h
 | .ask i j k,⟨h1,h2,h⟩=>⟨h1,h2,dP.bind h⟩
theorem dP.wp{f:Nat->Int}{α:Type}{cmp:Nat->Nat->(ai->ag->Prop)->ag->Prop}(hc:∀i j C,i<n->j<n->C (decide (f i<f j)) s->cmp i j C s){Q:α->ag->Prop}:∀{t:KasT α},dP f n t (λa=>Q a s)->t.kasWp cmp Q s
 | .ret a,h=>h
 | .ask i j k,⟨h1,h2,h⟩=>hc i j _ h1 h2 (dP.wp hc h)
section
variable {f:Nat->Int} {p:Array Nat}
noncomputable def kz(f:Nat->Int)(p:Array Nat)(i:Nat):Int:=f (p.getD i 0)
noncomputable def kR(f:Nat->Int)(p:Array Nat)(k:Nat):Prop:=∀i j,i<=j->j<k->kz f p i<=kz f p j
noncomputable def Dec(f:Nat->Int)(p:Array Nat)(k:Nat):Prop:=∀i j,i<=j->j<k->kz f p j<=kz f p i
structure Pm(f:Nat->Int)(n:Nat)(p:Array Nat):Prop where
 pm:p.Perm (List.range n).toArray
 nj:∀i j,i<n->j<n->f i=f j->i=j
theorem Pm.size(h:Pm f n p):p.size=n:=by
 rw[h.pm.size_eq]
 simp
theorem Pm.lt(h:Pm f n p)(hi:i<n):p.getD i 0<n:=by
 have k_:i<p.size:=by rw[h.size];exact hi
 have hm:p.getD i 0∈p:=by
  rw[fk,fX k_]
  exact Array.getElem_mem k_
 have:=h.pm.mem_iff.mp hm
 simpa using this
theorem Pm.apart(h:Pm f n p)(hi:i<n)(hj:j<n)(e:kz f p i=kz f p j):i=j:=by
 have e1:=h.nj _ _ (h.lt hi) (h.lt hj) e
 have k_:i<p.size:=by rw[h.size];exact hi
 have QH:j<p.size:=by rw[h.size];exact hj
 have nd:p.toList.Nodup:=by
  have:=Array.perm_iff_toList_perm.mp h.pm
  exact this.nodup_iff.mpr (by simpa using List.nodup_range)
 rw[fk,fk,fX k_,fX QH]at e1
 have e1:p[i]=p[j]:=e1
 have:=(List.getElem_inj (xs:=p.toList) (i:=i) (j:=j) (h₀:=by simpa using k_) (h₁:=by simpa using QH) nd).mp (by simpa using e1)
 exact this
theorem Pm.rev(h:Pm f n p)(i j:Nat):Pm f n (kas_rev p i j):=⟨(mirror_perm _ _ _ _).trans h.pm,h.nj⟩
theorem Pm.XC(h:Pm f n p)(k d:Nat):Pm f n (bubble p k d):=⟨(bubble_perm _ _ _).trans h.pm,h.nj⟩
theorem RX(h:Pm f n p){m:Nat}(hm:m<=n)(k:Nat):kz f (kas_rev p 0 m) k=if k<m then kz f p (m-1-k)else kz f p k:=by
 unfold kz kas_rev
 rw[fk,getElem?_mirror_all (i:=0) (j:=m) (by rw[h.size];exact hm)]
 by_cases hk:k<m
 ·rw[aA ⟨dD _,hk⟩,aA hk,fk,Nat.zero_add]
 ·rw[ax λz=>hk z.2,ax hk,fk]
theorem OF{Q:Nat->Prop}(h:Pm f n p):∀(d a:Nat),1<=a->kR f p a->a+d<=n->(∀m,a<=m->m<=a+d->kR f p m->(m=a+d\/kz f p m<kz f p (m-1))->Q m)->dP f n (kas_asc p d a) Q
 |0,a,_,hs,_,q=>q a (bu _) (bu _) hs (.inl rfl)
 |d+1,a,h1,hs,hn,q=>by
  refine⟨h.lt (by omega),h.lt (by omega),?_⟩
  show dP f n (if decide (kz f p a<kz f p (a-1))=true then _ else _) Q
  by_cases c:kz f p a<kz f p (a-1)
  ·rw[aA (bO c)]
   exact q a (bu _) (by omega) hs (.inr c)
  ·rw[ax (by rw[cW c];exact cb)]
   refine OF h d (a+1) (by omega) (λi j dH hj=>?_) (by omega) λm m1 m2 m3 m4=>q m (by omega) (by omega) m3 (m4.imp (λz=>by omega) id)
   by_cases e:j=a
   ·subst e
    by_cases e2:i=j
    ·rw[e2];exact fM _
    ·have:=hs i (j-1) (by omega) (by omega)
     omega
   ·exact hs i j dH (by omega)
theorem Wy{Q:Array Nat×Nat×Nat->Prop}(h:Pm f n p):∀(d a:Nat),1<=a->Dec f p a->a+d<=n->(∀m,a<=m->m<=a+d->Dec f p m->Q (p,m,0))->dP f n (kas_desc d p a 0) Q
 |0,a,_,hs,_,q=>q a (bu _) (bu _) hs
 |d+1,a,h1,hs,hn,q=>by
  refine⟨h.lt (by omega),h.lt (by omega),?_⟩
  show dP f n (if decide (kz f p a<kz f p (a-1))=true then _ else _) Q
  by_cases c:kz f p a<kz f p (a-1)
  ·rw[aA (bO c),ax (by omega)]
   refine Wy h d (a+1) (by omega) (λi j dH hj=>?_) (by omega) λm m1 m2 m3=>q m (by omega) (by omega) m3
   by_cases e:j=a
   ·subst e
    by_cases e2:i=j
    ·rw[e2];exact fM _
    ·have:=hs i (j-1) (by omega) (by omega)
     omega
   ·exact hs i j dH (by omega)
  ·rw[ax (by rw[cW c];exact cb)]
   refine⟨h.lt (by omega),h.lt (by omega),?_⟩
   show dP f n (if decide (kz f p (a-1)<kz f p a)=true then _ else _) Q
   have c2:kz f p (a-1)<kz f p a:=by
    have:kz f p (a-1)≠kz f p a:=λz=>by have:=h.apart (by omega) (by omega) z;omega
    omega
   rw[aA (bO c2)]
   exact q a (bu _) (by omega) hs
theorem agW{Q:Nat×Array Nat->Prop}(h:Pm f n p){a:Nat}(h1:1<=a)(ha:a<=n)(hd:Dec f p a)(q:∀m p',Pm f n p'->1<=m->m<=n->kR f p' m->Q (m,p')):dP f n (kas_tail3 a n p) Q:=by
 have hs:kR f (kas_rev p 0 a) a:=λi j dH hj=>by
  rw[RX h ha,RX h ha,aA (by omega),aA hj]
  exact hd (a-1-j) (a-1-i) (by omega) (by omega)
 refine dP.bind (OF (h.rev 0 a) (n-a) a h1 hs (by omega) λm m1 m2 m3 _=>?_)
 exact q m _ (h.rev 0 a) (by omega) (by omega) m3
theorem XM{Q:Nat×Array Nat->Prop}(h:Pm f n p)(h1:1<=n)(q:∀m p',Pm f n p'->1<=m->m<=n->kR f p' m->Q (m,p')):dP f n (kas_count n p) Q:=by
 refine dP.bind (OF h (n-1) 1 (bu _) (λi j dH hj=>by rw[show i=j by omega];exact fM _) (by omega) λm m1 m2 m3 m4=>?_)
 by_cases e:m=n
 ·rw[aA (beq_iff_eq.mpr e)]
  exact q m p h m1 (by omega) m3
 ·have bq:kz f p m<kz f p (m-1):=m4.resolve_left (by omega)
  rw[ax λz=>e (beq_iff_eq.mp z)]
  by_cases e1:m > 1
  ·rw[aA e1]
   refine⟨h.lt (by omega),h.lt (by omega),?_⟩
   show dP f n (if decide (kz f p 0<kz f p (m-1))=true then _ else _) Q
   have c:kz f p 0<kz f p (m-1):=by
    have a1:=m3 0 (m-1) (dD _) (by omega)
    have:kz f p 0≠kz f p (m-1):=λz=>by have:=h.apart (by omega) (by omega) z;omega
    omega
   rw[aA (bO c)]
   exact q m p h m1 (by omega) m3
  ·rw[ax e1]
   obtain rfl:m=1:=by omega
   refine dP.bind (Wy h (n-2) 2 (by omega) (λi j dH hj=>?_) (by omega) λm2' b1 b2 b3=>?_)
   ·rcases(show j=0\/j=1 by omega)with rfl|rfl
    ·rw[show i=0 by omega];exact fM _
    ·rcases(show i=0\/i=1 by omega)with rfl|rfl
     ·have bq:kz f p 1<kz f p 0:=bq
      omega
     ·exact fM _
   ·dsimp only
    rw[ax (by omega)]
    exact agW h (by omega) (by omega) b3 q
theorem Nf{Q:Nat->Prop}(h:Pm f n p){k:Nat}(hk:k<n)(hs:kR f p k):∀(d l r:Nat),r-l<=d->l<=r->r<=k->(∀i,i<l->kz f p i<kz f p k)->(∀i,r<=i->i<k->kz f p k<kz f p i)->
  (∀l,l<=k->(∀i,i<l->kz f p i<kz f p k)->(∀i,l<=i->i<k->kz f p k<kz f p i)->Q l)->dP f n (kas_place p k d l r) Q
 |0,l,r,hd,ZT,hr,h1,h2,q=>q l (by omega) h1 λi a b=>h2 i (by omega) b
 |d+1,l,r,hd,ZT,hr,h1,h2,q=>by
  show dP f n (if l>=r then _ else _) Q
  by_cases e:l>=r
  ·rw[aA e]
   exact q l (by omega) h1 λi a b=>h2 i (by omega) b
  ·rw[ax e]
   refine⟨h.lt hk,h.lt (by omega),?_⟩
   show dP f n (if decide (kz f p k<kz f p ((l+r) / 2))=true then _ else _) Q
   by_cases c:kz f p k<kz f p ((l+r) / 2)
   ·rw[aA (bO c)]
    refine Nf h hk hs d l ((l+r) / 2) (by omega) (by omega) (by omega) h1 (λi a b=>?_) q
    have:=hs ((l+r) / 2) i a b
    omega
   ·rw[ax (by rw[cW c];exact cb)]
    refine Nf h hk hs d ((l+r) / 2+1) r (by omega) (by omega) hr (λi a=>?_) h2 q
    have a1:=hs i ((l+r) / 2) (by omega) (by omega)
    have a2:kz f p ((l+r) / 2)≠kz f p k:=λz=>by have:=h.apart (by omega) hk z;omega
    omega
theorem Pe{Q:Array Nat->Prop}:∀(d k:Nat) {p:Array Nat},Pm f n p->kR f p k->k+d=n->(∀p',Pm f n p'->kR f p' n->Q p')->dP f n (kas_bin d p k) Q
 |0,k,p,h,hs,hn,q=>q p h (by rw[<-hn];exact hs)
 |d+1,k,p,h,hs,hn,q=>by
  refine dP.bind (Nf h (by omega) hs k 0 k (by omega) (dD _) (bu _) (λi a=>by omega) (λi a b=>by omega) λl hl h1 h2=>?_)
  have kb:∀i,kz f (bubble p k (k-l)) i=if i=l then kz f p k else if l<i/\i<=k then kz f p (i-1)else kz f p i:=λi=>by
   unfold kz
   rw[fk,getElem?_bubble (by rw[h.size];omega) (k-l) (by omega),show k- (k-l)=l by omega]
   split
   ·rw[fk]
   ·split
    ·rw[fk]
    ·rw[fk]
  refine Pe d (k+1) (h.XC k (k-l)) (λi j dH hj=>?_) (by omega) q
  rw[kb,kb]
  by_cases e1:i=l
  ·rw[aA e1]
   by_cases e2:j=l
   ·rw[aA e2];exact fM _
   ·rw[ax e2,aA ⟨by omega,by omega⟩]
    have:=h2 (j-1) (by omega) (by omega)
    omega
  ·rw[ax e1]
   by_cases e2:j=l
   ·rw[aA e2,ax (by omega)]
    have:=h1 i (by omega)
    omega
   ·rw[ax e2]
    by_cases e3:l<i
    ·rw[aA ⟨e3,by omega⟩,aA ⟨by omega,by omega⟩]
     exact hs (i-1) (j-1) (by omega) (by omega)
    ·rw[ax (by omega)]
     by_cases e4:l<j
     ·rw[aA ⟨e4,by omega⟩]
      exact hs i (j-1) (by omega) (by omega)
     ·rw[ax (by omega)]
      exact hs i j dH (by omega)
theorem afk{Q:Array Nat->Prop}(h1:1<=n)(nj:∀i j,i<n->j<n->f i=f j->i=j)(q:∀p',Pm f n p'->kR f p' n->Q p'):dP f n (kas_sort n) Q:=by
 have h:Pm f n (List.toArray (List.range n)):=⟨Array.Perm.refl _,nj⟩
 refine dP.bind (XM h h1 λm p' hp m1 m2 m3=>?_)
 by_cases e:m<n
 ·rw[aA e]
  have:max m 1=m:=by omega
  show dP f n (kas_bin (n-max m 1) p' (max m 1)) Q
  rw[this]
  exact Pe (n-m) m hp m3 (by omega) q
 ·rw[ax e]
  exact q p' hp (by rw[show n=m by omega];exact m3)
end
end Sx
namespace L2
open PySem PySem.Spec PyProof.Rows PySem.W
section
noncomputable def Cx.pF(X:Cx):Cx:={X with A:=X.A.in1.in1,xe:=λ_ _=>False}
theorem Inv.pF(I:Inv X pins σ H s):Inv X.pF pins σ H s:=
 ⟨⟨I.ok.mod,I.ok.kind,I.ok.glob,I.ok.blt,I.ok.above,I.ok.inj,I.ok.has,I.ok.ma,I.ok.hd,I.ok.frames,I.ok.rB,I.ok.vG,I.ok.bs,I.ok.kU,I.ok.pJ,I.ok.qv,I.ok.i0,I.ok.mi⟩,I.os,I.bare,I.base,I.loc,I.cell,I.free,I.gh,I.pin,I.aI,I.len⟩
theorem Inv.adH(ok:X.Ok)(I:Inv X.pF pins σ H s):Inv X pins σ H s:=
 ⟨ok,I.os,I.bare,I.base,I.loc,I.cell,I.free,I.gh,I.pin,I.aI,I.len⟩
theorem Inv.AZ{o:HO}(I:Inv X pins σ H s)(fp:kh X pins H a)(sz:X.s₀.heap.objs.size<=a)(new:c8 X.prog X.w (upd H a o) s.heap a o):Inv X pins σ (upd H a o) s:=by
 obtain⟨f0,f1,f2,f3,f4,f5⟩:=fp
 have ne:∀{b:ah} {u:HO},H b=some u->b≠a:=λ{b u} hb z=>by rw[z,f0]at hb;cases hb
 have nu:∀{b:ah} {u:HO},H b=some u->upd H a o b=some u:=λ{b u} hb=>(aw (ne hb)).trans hb
 refine⟨I.ok,I.os,I.bare,⟨I.base.keep,I.base.slot,λb ob e n hx=>?_,I.base.there,λb xs e=>nu (I.base.i_ b xs e),λb ob v e=>nu (I.base.iH b ob v e),λb ps e=>?_⟩,I.loc,I.cell,(aw λz=>f1 z.symm).trans I.free,λx c e=>(aw (f4 x c e)).trans (I.gh x c e),λp hp=>?_,λb v hb=>?_,I.len⟩
 ·rw[aw λz=>absurd (eQ (cc e) sz) (by rw[z];exact kN _)]
  exact I.base.free b ob e n hx
 ·obtain⟨more,h⟩:=I.base.jX b ps e
  exact⟨more,nu h⟩
 ·obtain⟨h1,h2,h3⟩:=I.pin p hp
  exact⟨h1,(aw (f5 p hp)).trans h2,h3⟩
 ·by_cases z:b=a
  ·subst z
   rw[aB]at hb
   obtain rfl:=cq hb
   exact new
  ·rw[aw z]at hb
   exact(I.aI b v hb).lK (λ_ _ _ q=>q) (λc hc=>nu hc) λc xs hc=>nu hc
theorem Xq{A:Around}{E:af->ag->Prop}{x y:ah}{a b c d:Int}{ta tb tc td:Tok}{prog:Program}{w:World}{Q:ai->ag->Prop}(hx:IsTup s.heap x #[.int a ta,.int b tb])(hy:IsTup s.heap y #[.int c tc,.int d td])
  (h:Q (decide (a<c\/(a=c/\b<d))) s):wpAny (model prog w) A (keyLt' (tuples' true) (.ref x) (.ref y)) Q E s:=by
 obtain⟨ox,ex,_,nx,dx⟩:=hx
 obtain⟨oy,ey,_,ny,dy⟩:=hy
 refine kat_lt ex dx ey dy ?_
 show KatLex prog w A true (decide (2<2)) Q [(.int a ta,.int c tc),(.int b tb,.int d td)] 0 s
 refine kat_cons (wpAny_eqBool_int ?_)
 by_cases e1:a=c
 ·rw[beq_iff_eq.mpr e1]
  refine kat_yes (kat_cons (wpAny_eqBool_int ?_))
  by_cases e2:b=d
  ·rw[beq_iff_eq.mpr e2]
   refine kat_yes (kat_nil ?_)
   rw[show(decide (a<c\/(a=c/\b<d)))=false from cW (by omega)]at h
   exact h
  ·rw[beq_eq_false_iff_ne.mpr e2]
   refine kat_no (kat_one _ _ (lt_int ?_))
   show Q _ s
   rw[show(decide (a<c\/(a=c/\b<d)))=decide (b<d)from decide_eq_decide.mpr (by omega)]at h
   exact h
 ·rw[beq_eq_false_iff_ne.mpr e1]
  refine kat_no (oneLt_int ?_)
  rw[show(decide (a<c\/(a=c/\b<d)))=decide (a<c)from decide_eq_decide.mpr (by omega)]at h
  exact h
end
open PySem PySem.Spec PyProof.Rows PySem.W
section
noncomputable def W_(H:Hp)(kf:Nat->Int×Int)(us:aa af):Prop:=∀(j:Nat),j<us.length->∃t,us[j]?=some (.ref t)/\H t=some (.tup [.int (kf j).1,.int (kf j).2])
structure sQ(X:Cx)(pins:List (Addr×Obj))(σ:St)(H0:Hp)(D kS:Addr)(e1:Nat)(kf:Nat->Int×Int)(us:List Value)(s:Shared):Prop where
 ex:∃H,Inv X pins σ H s/\aL H0 H/\kh X pins H D/\kh X pins H kS/\W_ H kf us
 d:s.heap.get? D=some (seqObj "list" #[] e1)
 k:∃e,s.heap.get? kS=some (seqObj "list" us.toArray e)
theorem NX{xs:Array af}(ho:h.get? a=some (seqObj "list" xs n))(g:Array af->Array af):∃e,(h.update a (Obj.mapSeq g)).get? a=some (seqObj "list" (g xs) e):=⟨_,get?_update_seq ho g⟩
theorem w5{pins:aa (ah×Obj)}{σ:St}{H0:Hp}{D kS:ah}{e1:Nat}{kf:Nat->Int×Int}{E:af->ag->Prop}{A:Around}{fv:af}{its:aa af}{body:af->PUnit->Sem (ForInStep PUnit)}(hn:n<64)
  (hb:∀(x:af) (s1:ag) (us:aa af) (R:ag->Prop),us.length<64->wpAny (model X.prog X.w) A (call fv [x]) (λk s2=>∃e,s2.heap.get? kS=some (seqObj "list" us.toArray e)/\R {s2 with heap:=s2.heap.update kS (Obj.mapSeq (·.push k))}) (λ_ _=>False) s1->wpAny (model X.prog X.w) A (body x ⟨⟩) (λr s'=>r= .yield ⟨⟩/\R s') E s1)
  (hc:∀(x:af) (us:aa af) (s1:ag),its[us.length]?=some x->sQ X pins σ H0 D kS e1 kf us s1->wpAny (model X.prog X.w) A (call fv [x]) (λk s2=>∃e,s2.heap.get? kS=some (seqObj "list" us.toArray e)/\sQ X pins σ H0 D kS e1 kf (us++ [k]) {s2 with heap:=s2.heap.update kS (Obj.mapSeq (·.push k))}) (λ_ _=>False) s1):
  ∀(r us:aa af) (s1:ag),us.length+r.length=n->(∀j x,r[j]?=some x->its[us.length+j]?=some x)->sQ X pins σ H0 D kS e1 kf us s1->wpAny (model X.prog X.w) A (forIn r PUnit.unit body) (λ_ s'=>∃Ud,Ud.length=n/\sQ X pins σ H0 D kS e1 kf Ud s') E s1
 | [],us,s1,hl,_,k=>by
  rw[List.forIn_nil]
  exact aR ⟨us,by simpa using hl,k⟩
 |x::r,us,s1,hl,hr,k=>by
  rw[d5]at hl
  rw[List.forIn_cons]
  refine aC (gU (hb x s1 us (λs'=>∃k,sQ X pins σ H0 D kS e1 kf (us++ [k]) s') (by omega) (gU (hc x us s1 (hr 0 x rfl) k) (λv s2 ⟨e,h1,h2⟩=>⟨e,h1,v,h2⟩) λ_ _ z=>z)) (λq s' ⟨hq,v,h2⟩=>?_) λ_ _ z=>z)
  subst hq
  show wpAny (model X.prog X.w) A (forIn r PUnit.unit body) _ E s'
  refine w5 hn hb hc r (us++ [v]) s' (by rw[gF,u3];omega) (λj y hy=>?_) h2
  rw[gF,u3,show us.length+1+j=us.length+(j+1) by omega]
  exact hr (j+1) y hy
noncomputable def NW(kf:Nat->Int×Int)(pm:aa Nat):Prop:=pm.Pairwise λi j=>(kf i).1< (kf j).1\/((kf i).1=(kf j).1/\(kf i).2< (kf j).2)
theorem Xz{a b c d M:Int}(h1:0<=b)(h2:b<M)(h3:0<=d)(h4:d<M):a*M+b<c*M+d↔(a<c\/(a=c/\b<d)):=by
 constructor
 ·intro h
  rcases Int.lt_trichotomy a c with z|z|z
  ·exact .inl z
  ·subst z
   exact .inr ⟨rfl,by omega⟩
  ·exfalso
   have:(c+1)*M<=a*M:=Int.mul_le_mul_of_nonneg_right z (by omega)
   rw[Int.add_mul]at this
   omega
 ·rintro(z| ⟨rfl,z⟩)
  ·have:(a+1)*M<=c*M:=Int.mul_le_mul_of_nonneg_right z (by omega)
   rw[Int.add_mul]at this
   omega
  ·omega
theorem zgZ{k:Nat}{x1:Str}(hc:X.calm=true)(F:cJ X.prog X.w X.K X.mg X.base CX k f fd [x1] sp)(hr:bB k X.A.in1.in1)(hb:gA X.K fd [x1] [])(hx:j6 CX X.pF E0):
  Cm X (.builtin "sorted") (Str.ofString "key") (λxs d H Q=>∃(l:ah) (vs:aa V) (kf:Nat->Int×Int) (M:Int),xs= [.ref l]/\d= .ref f/\aK X.K H l vs/\vs.length<64/\(∀i,i<vs.length->0<=(kf i).2/\(kf i).2<M)/\(∀i j,i<vs.length->j<vs.length->(kf i).2=(kf j).2->i=j)/\
   (∀i x H',vs[i]?=some x->aL H H'->sp [x] H' (λv kP=>aL H' kP/\∃t,v= .ref t/\kP t=some (.tup [.int (kf i).1,.int (kf i).2])) E0)/\
   ∀p (pm:aa Nat) H',aL H H'->H p=none->pm.Perm (List.range vs.length)->NW kf pm->H' p=some (.lst (pm.map λi=>vs.getD i .aE))->Q (.ref p) H'):=by
 intro pins s σ H xs us d dv Q I r rd h
 obtain⟨l,vs,kf,M,rfl,rfl,hl,Qj,hq,Zm,iM,q⟩:=h
 obtain⟨u,rfl,rx⟩:=jg r
 cases rx
 cases rd
 obtain⟨its,rv,pl,hz⟩:=I.list hl
 have hlen:vs.length=its.length:=rv.length
 have hsz:((s.heap.push (seqObj "list" #[] 0)).update s.heap.objs.size (Obj.mapSeq (·++its.toArray))).objs.size=s.heap.objs.size+1:=(Heap.size_update ..).trans (size_push' ..)
 have qM:(((s.heap.push (seqObj "list" #[] 0)).update s.heap.objs.size (Obj.mapSeq (·++its.toArray))).push (seqObj "list" its.toArray 0)).get? (s.heap.objs.size+1)=some (seqObj "list" its.toArray 0):=hsz▸eR _ rfl
 have tS:∀b o,s.heap.get? b=some o->(((s.heap.push (seqObj "list" #[] 0)).update s.heap.objs.size (Obj.mapSeq (·++its.toArray))).push (seqObj "list" its.toArray 0)).get? b=some o:=λb o e=>
  cL _ (((kc _ _ _).2 b (cU (cc e))).trans (cL _ e))
 refine call_function_entry_kw kind_sorted plain_sorted entry_sorted (ksk_s1 _ _) (show wpAny _ _ (checkCount _ _ _ _ >>= _) _ _ _ from aC (aR (aC (collect_list pl.isList (aC (vd (hsz:=by rw[a7];omega) ?_)) (by rw[a7];omega)))))
 show wpAny _ _ _ _ _ {s with heap:=((s.heap.push (seqObj "list" #[] 0)).update s.heap.objs.size (Obj.mapSeq (·++its.toArray))).push (seqObj "list" its.toArray 0)}
 rw[hsz]
 have zW:(((s.heap.push (seqObj "list" #[] 0)).update s.heap.objs.size (Obj.mapSeq (·++its.toArray))).push (seqObj "list" its.toArray 0)).objs.size=s.heap.objs.size+2:=by rw[size_push',hsz]
 generalize((s.heap.push (seqObj "list" #[] 0)).update s.heap.objs.size (Obj.mapSeq (·++its.toArray))).push (seqObj "list" its.toArray 0)=h1 at*
 obtain⟨D,eD⟩:∃D,D=s.heap.objs.size+1:=⟨_,rfl⟩
 rw[<-eD]at qM ⊢
 refine aC (oU (wpAny_call_entry_kw slot_list_sort ⟨_,qM,rfl⟩ entry_list_sort ?_ (ksk_l1 _ _)))
 rw[ksk_t1]
 unfold ksk_tree
 obtain⟨e1,QU⟩:=NX qM λ_=>#[]
 refine aC (listItems_at qM rfl (aC (listUpdate_at qM rfl ?_ (by rw[eP,a7];omega) (dD _))))
 refine aC (seqEpoch_at QU rfl (aC (wpAny_newTuple (hsz:=by show its.length<=_;rw[a7];omega) (aC (vd (hsz:=dD _) (oU ?_))))))
 have Fn:∀b o,s.heap.get? b=some o->(((h1.update D (Obj.mapSeq λ_=>#[])).push (seqObj "tuple" its.toArray 0)).push (seqObj "list" #[] 0)).get? b=some o:=λb o e=>
  cL _ (cL _ (((kc _ _ _).2 b (by rw[eD];exact cU (yK (cc e)))).trans (tS b o e)))
 have Z8:(((h1.update D (Obj.mapSeq λ_=>#[])).push (seqObj "tuple" its.toArray 0)).push (seqObj "list" #[] 0)).get? D=some (seqObj "list" #[] e1):=cL _ (cL _ QU)
 have fU:((h1.update D (Obj.mapSeq λ_=>#[])).push (seqObj "tuple" its.toArray 0)).objs.size=s.heap.objs.size+3:=by rw[size_push',Heap.size_update,zW]
 have QV:(((h1.update D (Obj.mapSeq λ_=>#[])).push (seqObj "tuple" its.toArray 0)).push (seqObj "list" #[] 0)).get? (s.heap.objs.size+3)=some (seqObj "list" #[] 0):=fU▸eR _ rfl
 show wpAny _ _ (ksk_rest D (.ref f) false its.toArray e1 (.ref ((h1.update D (Obj.mapSeq λ_=>#[])).push (seqObj "tuple" its.toArray 0)).objs.size)) _ _ {s with heap:=((h1.update D (Obj.mapSeq λ_=>#[])).push (seqObj "tuple" its.toArray 0)).push (seqObj "list" #[] 0)}
 rw[fU]
 generalize((h1.update D (Obj.mapSeq λ_=>#[])).push (seqObj "tuple" its.toArray 0)).push (seqObj "list" #[] 0)=h2 at*
 obtain⟨kS,eK⟩:∃kS,kS=s.heap.objs.size+3:=⟨_,rfl⟩
 rw[<-eK]at QV ⊢
 have Sz:D≠kS:=by rw[eD,eK];exact cU (by omega)
 have fD:kh X pins H D:=I.nJ (by rw[eD];exact kM _) (I.aI.fresh (by rw[eD];exact kM _))
 have fK:kh X pins H kS:=I.nJ (by rw[eK];exact Nat.le_add_right _ _) (I.aI.fresh (by rw[eK];exact Nat.le_add_right _ _))
 have K0:sQ X pins σ H D kS e1 kf [] {s with heap:=h2}:=⟨⟨H,I.kept (t':=s.toks) Fn,aL.refl _,fD,fK,λj hj=>absurd hj (by simp)⟩,Z8,0,QV⟩
 unfold ksk_rest
 refine aC (wpAny_rule ?_)
 rw[<-Array.forIn_toList]
 refine aC (gU (w5 (X:=X) (pins:=pins) (σ:=σ) (H0:=H) (D:=D) (kS:=kS) (e1:=e1) (kf:=kf) (fv:=.ref f) (n:=its.length) (its:=its) (by omega) (λx s1 us R Rn pD=>?_) (λx us s1 zA K1=>?_) its [] _ (by simp) (λj x hj=>by simpa using hj) K0) (λ_ s3 ⟨us,Rn,K3⟩=>?_) λ_ _ z=>z)
 ·-- one key,akA
  refine aC (wpAny_attempt (gU pD (λkv s2 ⟨e,g1,g2⟩=>?_) λ_ _ z=>z.elim))
  dsimp only
  exact aC (listUpdate_at g1 rfl (aR ⟨rfl,g2⟩) (by rw[eP,a7];omega) (by rw[Array.size_push,eP,a7];omega))
 ·-- one key,asked
  obtain⟨⟨H1,I1,sm,ze,pd,ka⟩,d1,⟨ek,k1⟩⟩:=K1
  obtain⟨xv,hxv,rxv⟩:∃xv,vs[us.length]?=some xv/\RelV xv x:=by
   obtain⟨hi,aj4⟩:=List.getElem?_eq_some_iff.mp zA
   have zz:us.length<vs.length:=by omega
   obtain⟨x',cA,xH⟩:=rv.get (jF zz)
   rw[zA]at cA
   obtain rfl:=cq cA
   exact⟨_,jF zz,xH⟩
  have W6:Inv X (pins++ [(D,seqObj "list" #[] e1),(kS,seqObj "list" us.toArray ek)]) σ H1 s1:=I1.xB λp hp=>by
   rcases List.mem_append.mp hp with z|z
   ·exact I1.pin p (iB _ z)
   ·rcases hZ.mp z with z|z
    ·subst z
     exact⟨d1,ze.1,ze.2.1,ze.2.2.1,λv z=>by cases z⟩
    ·rw[List.mem_singleton.mp z]
     exact⟨k1,pd.1,pd.2.1,pd.2.2.1,λv z=>by cases z⟩
  refine gU (yv (X:=X.pF) F hr hb .nil hx W6.pF (.cons rxv .nil) (iM us.length xv H1 hxv sm)) (λkv s2 ⟨v,H2,I2,rv2,AS,t,hv,ht⟩=>?_) λ_ _ z=>z
  subst hv
  cases rv2
  have Cr:=I2.adH I.ok
  have mD:(D,seqObj "list" #[] e1)∈X.pn++(pins++ [(D,seqObj "list" #[] e1),(kS,seqObj "list" us.toArray ek)]):=by simp
  have mK:(kS,seqObj "list" us.toArray ek)∈X.pn++(pins++ [(D,seqObj "list" #[] e1),(kS,seqObj "list" us.toArray ek)]):=by simp
  obtain⟨gD,nD,_⟩:=Cr.pin _ mD
  obtain⟨gK,nK,_⟩:=Cr.pin _ mK
  refine⟨ek,gK,⟨H2,Cr.A1.turned (t':=s2.toks) (it:=kS) (λb o hb e=>((kc _ _ _).2 b hb).trans e) nK pd.2.1 pd.2.2.2.1 pd.2.2.2.2.1 pd.2.2.2.2.2,sm.trans AS,⟨nD,ze.2⟩,⟨nK,pd.2⟩,λj hj=>?_⟩,((kc _ _ _).2 D Sz).trans gD,?_⟩
  ·rw[gF,u3]at hj
   by_cases e:j<us.length
   ·obtain⟨t',fR,gN⟩:=ka j e
    exact⟨t',by rw[OO e];exact fR,AS _ _ gN⟩
   ·obtain rfl:j=us.length:=by omega
    exact⟨t,by simp,ht⟩
  ·obtain⟨e',mC⟩:=NX gK (·.push (.ref t))
   exact⟨e',by rw[mC];simp⟩
 ·-- sorted
  obtain⟨⟨H3,I3,sm3,sX,vH,ka⟩,d3,⟨ek,k3⟩⟩:=K3
  refine aC (listItems_at k3 rfl ?_)
  have hn:us.length=its.length:=Rn
  have fin:∀(st:SortSt) (pm:aa Nat),(arrOf st).map (·.2)=(pm.map λi=>its.getD i Value.none).toArray->failedOf st=none->pm.Perm (List.range vs.length)->NW kf pm->
    wpAny (model X.prog X.w) X.A.in1.in1 (ksk_tail D false e1 (.ref kS) st) (λfn s'=>∃v,fn=PySem.Fin.done (.ret v)/\wpAny (model X.prog X.w) X.A.in1 (ret (.ref D)) (λfn s'=>∃v,fn=PySem.Fin.done (.ret v)/\EP X pins σ Q v s') X.xe s') X.xe s3:=λst pm aaj hf gk Ef=>by
   have eX:pm.length=its.length:=by rw[gk.length_eq,yI];omega
   have d4:(s3.heap.update kS (Obj.mapSeq λ_=>#[])).get? D=some (seqObj "list" #[] e1):=((kc _ _ _).2 D Sz).trans d3
   obtain⟨e5,g5⟩:=NX d4 λ_=>(pm.map λi=>its.getD i Value.none).toArray
   unfold ksk_tail
   dsimp only
   rw[aaj,ax cb]
   refine aC (listUpdate_at k3 rfl ?_ (by rw[eP,a7];omega) (dD _))
   refine aC (wpAny_letGo (aC (seqEpoch_at d4 rfl (aC (listUpdate_at d4 rfl ?_ (dD _) (by rw[eP,bH,a7];omega))))))
   rw[hf]
   simp only[bne_self_eq_false,oR,if_false]
   refine aR ⟨_,rfl,aR ⟨_,rfl,?_⟩⟩
   have I4:=I3.turned (t':=s3.toks) (it:=kS) (h':=s3.heap.update kS (Obj.mapSeq λ_=>#[])) (λb o hb e=>((kc _ _ _).2 b hb).trans e) vH.1 vH.2.1 vH.2.2.2.1 vH.2.2.2.2.1 vH.2.2.2.2.2
   have I5:=I4.turned (t':=s3.toks) (it:=D) (h':=(s3.heap.update kS (Obj.mapSeq λ_=>#[])).update D (Obj.mapSeq λ_=>(pm.map λi=>its.getD i Value.none).toArray)) (λb o hb e=>((kc _ _ _).2 b hb).trans e) sX.1 sX.2.1 sX.2.2.2.1 sX.2.2.2.2.1 sX.2.2.2.2.2
   have pick:∀{qs:aa Nat},(∀i∈qs,i<vs.length)->Vals (qs.map λi=>vs.getD i .aE) (qs.map λi=>its.getD i Value.none):=λ{qs} hq=>by
    induction qs with
    |nil=>exact .nil
    |cons i r ih=>
     refine .cons ?_ (ih λj hj=>hq j (cE _ hj))
     have hi:=hq i bA
     obtain⟨x',cA,xH⟩:=rv.get (jF hi)
     show RelV (vs.getD i .aE) (its.getD i Value.none)
     rw[uZ,uZ,cA,jF hi]
     exact xH
   refine⟨.ref D,_,I5.AZ sX (eA I.sz (by rw[eD];exact kM _)) (o:=.lst (pm.map λi=>vs.getD i .aE)) ⟨by rw[bH,a7];omega,_,e5,pick λi hi=>by simpa using gk.mem_iff.mp hi,g5⟩,rfl,q D pm _ (λb o e=>(aw λz=>by rw[z,fD.1]at e;cases e).trans (sm3 _ _ e)) fD.1 gk Ef aB⟩
  unfold ksk_end
  dsimp only
  rw[ax cb]
  by_cases h2:its.toArray.size<2
  ·rw[aA h2,aA h2]
   refine aC (aR ?_)
   rw[StateT.run_pure]
   rw[eP]at h2
   refine aC (aR (fin (SortSt.mk' general' (us.toArray.zip its.toArray) #[] 7 none) (List.range vs.length) ?_ rfl (qf _) ?_))
   ·apply Array.toList_inj.mp
    show((us.toArray.zip its.toArray).map (·.2)).toList=_
    rw[Array.toList_map,Array.toList_zip,hlen]
    simp only[List.map_snd_zip (u6 hn.symm)]
    refine List.ext_getElem? λj=>?_
    rw[fN]
    by_cases hj:j<its.length
    ·rw[List.getElem?_range hj]
     simp[hj]
    ·rw[yE (by omega),yE (by rw[yI];omega)]
     rfl
   ·unfold NW
    rw[hlen]
    rcases(show its.length=0\/its.length=1 by omega)with z|z<;>rw[z]
    ·exact List.Pairwise.nil
    ·exact List.pairwise_cons.mpr ⟨λ_ h=>absurd h (by simp),List.Pairwise.nil⟩
  ·rw[ax h2,ax h2]
   rw[eP]at h2
   have tup:∀j,j<us.length->∃t ta tb,us[j]?=some (.ref t)/\IsTup s3.heap t #[.int (kf j).1 ta,.int (kf j).2 tb]:=λj hj=>by
    obtain⟨t,fR,gN⟩:=ka j hj
    obtain⟨its',rv',EY,_⟩:=I3.tuple (aM.of gN)
    cases rv' with
    |cons r1 r2=>
     cases r2 with
     |cons r3 r4=>
      cases r4
      obtain⟨ta,rfl⟩:=r1
      obtain⟨tb,rfl⟩:=r3
      exact⟨t,ta,tb,fR,EY⟩
   have kts:∀{ws:aa af},(∀v∈ws,∃t x ta y,v= .ref t/\IsTup s3.heap t #[.int x ta,y])->∃fs,fs.length=ws.length/\KatTups s3.heap ws fs/\∀v∈fs,∃x ta,v=Value.int x ta:=λ{ws} hw=>by
    induction ws with
    |nil=>exact⟨[],rfl,KatTups.nil,λ_ h=>absurd h (by simp)⟩
    |cons v r ih=>
     obtain⟨fs,f1,f2,f3⟩:=ih λw nW=>hw w (cE _ nW)
     obtain⟨t,x,ta,y,rfl,o,ho,df,nn,hd⟩:=hw v bA
     refine⟨.int x ta::fs,by simp[f1],KatTups.cons ho df hd rfl f2,λw nW=>?_⟩
     rcases hZ.mp nW with rfl|nW
     ·exact⟨x,ta,rfl⟩
     ·exact f3 w nW
   obtain⟨fs,f1,f2,f3⟩:=kts (ws:=us) λv hv=>by
    obtain⟨j,hj⟩:=List.mem_iff_getElem?.mp hv
    obtain⟨t,ta,tb,fR,gN⟩:=tup j (List.getElem?_eq_some_iff.mp hj).1
    rw[hj]at fR
    exact⟨t,_,ta,_,cq fR,gN⟩
   refine aC (kat_kind (T:=.type "int") f2 (by omega) (λv hv=>?_) rfl ?_)
   ·obtain⟨x,ta,rfl⟩:=f3 v hv
    exact .now
   have bl:∀i j,i<its.length->j<its.length->((kf i).1*M+(kf i).2< (kf j).1*M+(kf j).2↔((kf i).1< (kf j).1\/((kf i).1=(kf j).1/\(kf i).2< (kf j).2))):=λi j hi hj=>Xz (hq i (by omega)).1 (hq i (by omega)).2 (hq j (by omega)).1 (hq j (by omega)).2
   refine aC (gU (kat_run (A:=X.A.in1.in1) (E:=X.xe) (s:=s3) (Q:=λfC s'=>s'=s3/\failedOf fC=none/\∃p:Array Nat,arrOf fC=p.map (kas_item (us.toArray.zip its.toArray))/\Sx.Pm (λi=>(kf i).1*M+(kf i).2) its.length p/\Sx.kR (λi=>(kf i).1*M+(kf i).2) p its.length)
    (G:=λp s'=>s'=s3/\Sx.Pm (λi=>(kf i).1*M+(kf i).2) its.length p/\Sx.kR (λi=>(kf i).1*M+(kf i).2) p its.length) hn (by omega) (by omega) (λp fC s' _ a1 a2 a3=>⟨a3.1,a2,p,a1,a3.2⟩) ?_) ?_ λ_ _ z=>z)
   ·refine Sx.dP.wp (f:=λi=>(kf i).1*M+(kf i).2) (n:=its.length) (λi j C hi hj hC=>?_) (Sx.afk (by omega) (λi j hi hj e=>?_) λp' hp hs=>⟨rfl,hp,hs⟩)
    ·obtain⟨t,ta,tb,fR,gN⟩:=tup i (by omega)
     obtain⟨t',ta',tb',YN,YS⟩:=tup j (by omega)
     unfold kas_ask
     rw[uZ,uZ,fR,YN]
     refine Xq gN YS ?_
     rw[<-decide_eq_decide.mpr (bl i j hi hj)]
     exact hC
    ·have b1:=bl i j hi hj
     have b2:=bl j i hj hi
     exact Zm i j (by omega) (by omega) (by omega)
   ·rintro⟨⟨⟩,fC⟩ s' ⟨rfl,hf,p,Y3,hp,hs⟩
    refine fin fC p.toList (kat_snds hn Y3) hf ?_ ?_
    ·have:=Array.perm_iff_toList_perm.mp hp.pm
     rw[hlen]
     simpa using this
    ·refine List.pairwise_iff_getElem.mpr λi j hi hj dH=>?_
     have akg:=hp.size
     rw[gT]at hi hj
     have e1:=hs i j (lZ dH) (by omega)
     have e2:Sx.kz (λi=>(kf i).1*M+(kf i).2) p i≠Sx.kz (λi=>(kf i).1*M+(kf i).2) p j:=λz=>by have:=hp.apart (by omega) (by omega) z;omega
     have g1:p.getD i 0=p.toList[i]:=by rw[fk,fX hi];simp
     have g2:p.getD j 0=p.toList[j]:=by rw[fk,fX hj];simp
     unfold Sx.kz at e1 e2
     rw[g1,g2]at e1 e2
     have l1:=hp.lt (i:=i) (by omega)
     have l2:=hp.lt (i:=j) (by omega)
     rw[g1]at l1
     rw[g2]at l2
     exact(bl _ _ l1 l2).mp (Int.lt_iff_le_and_ne.mpr ⟨e1,e2⟩)
end
open PySem PySem.Spec PyProof.Rows
theorem oM{P:Str×Nat->Prop}{q:Str×Nat}(h:P q):∀p∈[q],P p:=λp hp=>by
 rw[List.mem_singleton.mp hp]
 exact h
theorem C9{P:Str×Nat->Prop}{q r:Str×Nat}(h:P q)(h':P r):∀p∈[q,r],P p:=λp hp=>by
 rcases hZ.mp hp with e|e
 ·rw[e]
  exact h
 ·rw[List.mem_singleton.mp e]
  exact h'
theorem oK{y:Str}{iy:Nat}(h:σ[iy]?=some (some v)):∀(j:Nat) p,[(y,iy)][j]?=some p->∃v',σ[p.2]?=some (some v')/\[v][j]?=some v':=λj p hp=>by
 cases j with
 |zero=>
  obtain rfl:(y,iy)=p:=by simpa using hp
  exact⟨v,h,rfl⟩
 |succ j=>simp at hp
theorem Ph{y z:Str}{iy iz:Nat}{w:V}(h:σ[iy]?=some (some v))(h':σ[iz]?=some (some w)):∀(j:Nat) p,[(y,iy),(z,iz)][j]?=some p->∃v',σ[p.2]?=some (some v')/\[v,w][j]?=some v':=λj p hp=>by
 rcases j with _|_|j
 ·obtain rfl:(y,iy)=p:=by simpa using hp
  exact⟨v,h,rfl⟩
 ·obtain rfl:(z,iz)=p:=by simpa using hp
  exact⟨w,h',rfl⟩
 ·simp at hp
theorem oB{σ0:St}{xs:aa V}{g:TG}{tc:TT}{te:TE}{G:ah->aa V->Hp->Prop}(f:Nat->V->ae V)(hS:aK K H a xs)(hl:xs.length<=sizeLine)
  (hs:∀(i:Nat) (x:V),xs[i]?=some x->∀(Rt:V->Hp->Prop) (Rf:Hp->Prop),(∀y,f i x=some y->Rt y H)->(f i x=none->Rf H)->g x σ0 H λσ2 H2=>tc σ2 H2 λb H3=>if b=true then te σ2 H3 Rt else Rf H3)
  (hq:∀p,H p=none->G p ((xs.zipIdx).filterMap λq=>f q.2 q.1) H):
  ∃W:Nat->Nat->aa V->Hp->Prop,(∃m,W 0 m [] H)/\∀i m ys H,W i m ys H->ys.length<=sizeLine/\
   (((fZ K a).stop i H/\∀p,H p=none->G p ys H)\/
    ((fZ K a).go i H/\∀x H',(fZ K a).kF i H x H'->g x σ0 H' λσ2 H2=>tc σ2 H2 λb H3=>if b=true then te σ2 H3 λy H4=>∃m',m'<m/\W (i+1) m' (ys++ [y]) H4 else ∃m',m'<m/\W (i+1) m' ys H3)):=by
 refine⟨λi m zs H'=>H'=H/\i<=xs.length/\m=xs.length-i/\zs=(xs.zipIdx.take i).filterMap λq=>f q.2 q.1,(rX rfl ⟨dD _,rfl,by simp⟩),?_⟩
 rintro i m zs H' ⟨rfl,hi,rfl,rfl⟩
 refine⟨eA (eA (List.length_filterMap_le _ _) (by rw[iT,List.length_zipIdx];omega)) hl,?_⟩
 by_cases bq:i<xs.length
 ·refine .inr ⟨⟨xs,xs[i],hS,by simp[bq]⟩,λx kP hy=>?_⟩
  obtain⟨e,hx⟩:=hy
  subst e
  have hx:=hx xs hS
  have tk:xs.zipIdx.take (i+1)=xs.zipIdx.take i++ [(x,i)]:=by rw[sD,List.getElem?_zipIdx,hx];simp
  refine hs i x hx _ _ (λy hy=>⟨_,by omega,rfl,bq,rfl,?_⟩) λhn=>⟨_,by omega,rfl,bq,rfl,?_⟩
  ·rw[tk,B5]
   simp[hy]
  ·rw[tk,B5]
   simp[hn]
 ·have e:i=xs.length:=by omega
  refine .inl ⟨⟨xs,hS,by omega⟩,λp hp=>?_⟩
  rw[e,List.take_of_length_le (by rw[List.length_zipIdx];exact bu _)]
  exact hq p hp
theorem aiK{α β:Type}{ys:aa α}(f:α->V)(P:α->ai)(g:α->β):∀(k:Nat),((ys.map f).zipIdx k).filterMap (λq=>match ys[q.2-k]? with|some y=>if P y=true then some (g y)else none|none=>none)=(ys.filter P).map g:=by
 induction ys with
 |nil=>intro k;rfl
 |cons y r ih=>
  intro k
  rw[dO,List.zipIdx_cons,sx,yC]
  have hr:((r.map f).zipIdx (k+1)).filterMap (λq=>match(y::r)[q.2-k]? with|some y=>if P y=true then some (g y)else none|none=>none)=(r.filter P).map g:=by
   rw[<-ih (k+1)]
   have XJ:∀{l:aa (V×Nat)} {F G:V×Nat->ae β},(∀q∈l,F q=G q)->l.filterMap F=l.filterMap G:=λ{l F G} h=>by
    induction l with
    |nil=>rfl
    |cons q t ih=>
     rw[sx,sx,h q bA,ih λx hx=>h x (cE _ hx)]
   refine XJ λq hq=>?_
   have:k+1<=q.2:=(List.mem_zipIdx hq).1
   rw[show q.2-k=(q.2- (k+1))+1 by omega,List.getElem?_cons_succ]
  by_cases hp:P y=true
  ·simp only[Nat.sub_self,List.getElem?_cons_zero,hp,if_true]
   rw[hr]
   rfl
  ·simp only[Nat.sub_self,List.getElem?_cons_zero,hp,if_false,oR]
   exact hr
end L2
namespace Fb
open PySem L2
noncomputable def Ent.er(e:Ent):Ent:={e with ea:=0,oa:=0,ra:=0,many:=0}
noncomputable def oD(e:Ent):aa (Key×V):=[(Sum.inr "number",.int e.num),(Sum.inr "owner",.int e.owner),(Sum.inr "side",.str (aH e.au)),(Sum.inr "price",.int e.ar),(Sum.inr "left",.int e.left),(Sum.inr "shows",oV e.shows),(Sum.inr "place",.int (e.place+1)),(Sum.inr "shown",.int e.shown)]
noncomputable def cD(n ow:Int)(b:ai)(pr:ae Int)(left:Int)(shows:ae Int):aa (Key×V):=[(Sum.inr "number",.int n),(Sum.inr "owner",.int ow),(Sum.inr "side",.str (aH b)),(Sum.inr "price",oV pr),(Sum.inr "left",.int left),(Sum.inr "shows",oV shows)]
structure Ws where
 es:List Ent
 aG:Int
 places:Int
 aY:Bool
 last:Option Int
 bE:Int
noncomputable def Ws.dat(W:Ws)(lo:ah):aa (Key×V):=[(Sum.inr "orders",.ref lo),(Sum.inr "many",.int W.aG),(Sum.inr "places",.int W.places),(Sum.inr "last",oV W.last),(Sum.inr "volume",.int W.bE),(Sum.inr "calling",.bl W.aY)]
structure bP(H:Hp)(wa lo:Addr)(ad:Int->Addr)(W:Ws):Prop where
 w:H wa=some (.dK (W.dat lo))
 l:H lo=some (.lst (W.es.map λe=>.ref (ad e.num)))
 o:∀e∈W.es,H (ad e.num)=some (.dK (oD e))/\ad e.num≠wa
 nj:∀e∈W.es,∀e'∈W.es,ad e.num=ad e'.num->e.num=e'.num
 nd:(W.es.map (·.num)).Nodup
 ln:W.es.length<=40
noncomputable def cf(wa lo:ah)(ad:Int->ah)(W:Ws)(x:ah):Prop:=x=wa\/x=lo\/∃e∈W.es,x=ad e.num
structure cM(wa:Addr)(H:Hp)(lo:Addr)(ad:Int->Addr)(W:Ws)(H':Hp)(cj:Addr)(iE:Int->Addr)(W':Ws):Prop where
 kp:∀x o,H x=some o->¬cf wa lo ad W x->H' x=some o
 ft:∀x,cf wa cj iE W' x->cf wa lo ad W x\/H x=none
 li:∀x xs,H x=some (.lst xs)->H' x=some (.lst xs)
theorem cM.refl{W:Ws}:cM wa H lo ad W H lo ad W:=⟨λ_ _ h _=>h,λ_ h=>.inl h,λ_ _ h=>h⟩
theorem cM.trans{lo1 jU:ah}{O7 O8:Int->ah}{W W1 W2:Ws}(a:cM wa H lo ad W H1 lo1 O7 W1)(b:cM wa H1 lo1 O7 W1 H2 jU O8 W2):cM wa H lo ad W H2 jU O8 W2:=by
 refine⟨λx o hx hn=>b.kp x o (a.kp x o hx hn) λz=>?_,λx hx=>?_,λx xs h=>b.li x xs (a.li x xs h)⟩
 ·rcases a.ft x z with z|z
  ·exact hn z
  ·rw[hx]at z
   cases z
 ·rcases b.ft x hx with z|z
  ·exact a.ft x z
  ·by_cases hO:cf wa lo ad W x
   ·exact .inl hO
   ·cases e:H x with
    |none=>exact .inr rfl
    |some o=>
     rw[a.kp x o e hO]at z
     cases z
theorem cM.same{W:Ws}(s:aL H H1):cM wa H lo ad W H1 lo ad W:=⟨λx o hx _=>s x o hx,λ_ h=>.inl h,λx _ h=>s x _ h⟩
theorem bP.same{W:Ws}(R:bP H wa lo ad W)(s:aL H H'):bP H' wa lo ad W:=⟨s _ _ R.w,s _ _ R.l,λe he=>⟨s _ _ (R.o e he).1,(R.o e he).2⟩,R.nj,R.nd,R.ln⟩
theorem pU(W:Ws)(lo:ah):bQ (W.dat lo) (Sum.inr "orders")=some (.ref lo):=rfl
theorem Uh(W:Ws)(lo:ah):bQ (W.dat lo) (Sum.inr "many")=some (.int W.aG):=rfl
theorem VB(W:Ws)(lo:ah):bQ (W.dat lo) (Sum.inr "places")=some (.int W.places):=rfl
theorem Ot(W:Ws)(lo:ah):bQ (W.dat lo) (Sum.inr "last")=some (oV W.last):=rfl
theorem Mm(W:Ws)(lo:ah):bQ (W.dat lo) (Sum.inr "volume")=some (.int W.bE):=rfl
theorem uA(W:Ws)(lo:ah):bQ (W.dat lo) (Sum.inr "calling")=some (.bl W.aY):=rfl
theorem bP.wg{W:Ws}(R:bP H wa lo ad W)(hv:bQ (W.dat lo) (Sum.inr x)=some v):fO H wa (.str x) (some v):=.inl ⟨_,Sum.inr x,.inl R.w,rfl,hv.symm⟩
theorem bP.og{W:Ws}(R:bP H wa lo ad W)(he:e∈W.es)(hv:bQ (oD e) (Sum.inr x)=some v):fO H (ad e.num) (.str x) (some v):=.inl ⟨_,Sum.inr x,.inl (R.o e he).1,rfl,hv.symm⟩
theorem cg(h:H a=some (.dK kv))(hv:bQ kv (Sum.inr x)=some v):fO H a (.str x) (some v):=.inl ⟨_,Sum.inr x,.inl h,rfl,hv.symm⟩
theorem iS{α β:Type}{f:α->β}{xs:aa α}{y:β}(h:(xs.map f)[i]?=some y):∃x,xs[i]?=some x/\y=f x:=by
 rw[fN]at h
 cases e:xs[i]? with
 |none=>
  rw[e]at h
  cases h
 |some x=>
  rw[e]at h
  exact⟨x,rfl,(cq h).symm⟩
theorem lY{xs:aa V}(h:H a=some (.dK kv))(h':H lo=some (.lst xs)):a≠lo:=sk h h' λz=>by cases z
theorem bP.lJ{W W':Ws}(R:bP H wa lo ad W)(he:W'.es=W.es):bP (upd H wa (.dK (W'.dat lo))) wa lo ad W':=by
 refine⟨aB,?_,λe h=>?_,?_,?_,?_⟩
 ·rw[aw λz=>lY R.w R.l z.symm,he]
  exact R.l
 ·rw[he]at h
  rw[aw (R.o e h).2]
  exact R.o e h
 ·rw[he];exact R.nj
 ·rw[he];exact R.nd
 ·rw[he];exact R.ln
theorem bP.AO{W W':Ws}{kw:aa (Key×V)}(hw:H wa=some (.dK kw))(he:W'.es=W.es):cM wa H lo ad W (upd H wa (.dK kv)) lo ad W':=by
 refine⟨λx o hx hn=>(aw λz=>hn (.inl z)).trans hx,λx h=>.inl ?_,λx xs h=>(aw λz=>lY hw h z.symm).trans h⟩
 rcases h with h|h| ⟨e,h,z⟩
 ·exact .inl h
 ·exact .inr (.inl h)
 ·exact .inr (.inr ⟨e,by rw[<-he];exact h,z⟩)
theorem bP.PK{W:Ws}(R:bP H wa lo ad W)(P:Ent->ai){p:ah}(hp:H p=none):
  bP (upd (upd H p (.lst ((W.es.filter P).map λe=>.ref (ad e.num)))) wa (.dK ({W with es:=W.es.filter P}.dat p))) wa p ad {W with es:=W.es.filter P}/\
  cM wa H lo ad W (upd (upd H p (.lst ((W.es.filter P).map λe=>.ref (ad e.num)))) wa (.dK ({W with es:=W.es.filter P}.dat p))) p ad {W with es:=W.es.filter P}:=by
 have npw:p≠wa:=(a6 R.w hp).symm
 refine⟨⟨aB,(aw npw).trans aB,λe h=>?_,λe h e' h'=>R.nj e (List.mem_filter.mp h).1 e' (List.mem_filter.mp h').1,?_,eA (sy _ _) R.ln⟩,⟨λx o hx hn=>?_,λx h=>?_,λx xs h=>(aw λz=>lY R.w h z.symm).trans ((aw (a6 h hp)).trans h)⟩⟩
 ·have he:=(List.mem_filter.mp h).1
  refine⟨?_,(R.o e he).2⟩
  rw[aw (R.o e he).2,aw (a6 (R.o e he).1 hp)]
  exact(R.o e he).1
 ·exact(List.filter_sublist.map _).nodup R.nd
 ·rw[aw λz=>hn (.inl z),aw (a6 hx hp)]
  exact hx
 ·rcases h with h|h| ⟨e,h,z⟩
  ·exact .inl (.inl h)
  ·exact .inr (by rw[h];exact hp)
  ·exact .inl (.inr (.inr ⟨e,(List.mem_filter.mp h).1,z⟩))
noncomputable def bX(es:aa Ent)(e':Ent):aa Ent:=es.map λx=>if x.num=e'.num then e' else x
theorem MT(es:aa Ent)(e':Ent):(bX es e').map (·.num)=es.map (·.num):=by
 unfold bX
 rw[gG]
 refine qg λx _=>?_
 show(if x.num=e'.num then e' else x).num=x.num
 split
 ·rename_i h;exact h.symm
 ·rfl
theorem bP.row{W:Ws}(R:bP H wa lo ad W)(he:e∈W.es)(hn:e'.num=e.num):
  bP (upd H (ad e.num) (.dK (oD e'))) wa lo ad {W with es:=bX W.es e'}/\cM wa H lo ad W (upd H (ad e.num) (.dK (oD e'))) lo ad {W with es:=bX W.es e'}:=by
 have ky:=MT W.es e'
 have old:∀x∈bX W.es e',(x=e'\/(x∈W.es/\x.num≠e'.num))/\∃y∈W.es,y.num=x.num:=λx hx=>by
  obtain⟨y,hy,z⟩:=u4.mp hx
  by_cases q:y.num=e'.num
  ·rw[aA q]at z
   exact⟨.inl z.symm,y,hy,by rw[<-z];exact q⟩
  ·rw[ax q]at z
   subst z
   exact⟨.inr ⟨hy,q⟩,y,hy,rfl⟩
 refine⟨⟨(aw (R.o e he).2.symm).trans R.w,?_,λx hx=>?_,λx hx y hy z=>?_,by show((bX W.es e').map _).Nodup;rw[ky];exact R.nd,by show(bX W.es e').length<=40;unfold bX;rw[bH];exact R.ln⟩,⟨λx o hx h=>(aw λz=>h (.inr (.inr ⟨e,he,z⟩))).trans hx,λx h=>.inl ?_,λx xs h=>(aw λz=>lY (R.o e he).1 h z.symm).trans h⟩⟩
 ·rw[aw λz=>lY (R.o e he).1 R.l z.symm,R.l]
  have:(bX W.es e').map (λe=>V.ref (ad e.num))=W.es.map λe=>V.ref (ad e.num):=by
   have h1:∀l:aa Ent,l.map (λe=>V.ref (ad e.num))=(l.map (·.num)).map λk=>V.ref (ad k):=λl=>by rw[gG];rfl
   rw[h1,h1,ky]
  rw[this]
 ·obtain⟨h1,y,hy,jT⟩:=old x hx
  rcases h1 with rfl| ⟨h1,h2⟩
  ·rw[hn]
   exact⟨aB,(R.o e he).2⟩
  ·refine⟨?_,(R.o x h1).2⟩
   rw[aw λz=>h2 ((R.nj x h1 e he z).trans hn.symm)]
   exact(R.o x h1).1
 ·obtain⟨_,x',cA,e1⟩:=old x hx
  obtain⟨_,y',gr,e2⟩:=old y hy
  rw[<-e1,<-e2]at z ⊢
  exact R.nj x' cA y' gr z
 ·rcases h with h|h| ⟨x',h,z⟩
  ·exact .inl h
  ·exact .inr (.inl h)
  ·obtain⟨_,y,hy,jT⟩:=old x' h
   exact .inr (.inr ⟨y,hy,by rw[jT];exact z⟩)
structure iC where
 new:Addr
 first:Addr
 side:Addr
 put:Addr
 uk:Addr
 gone:Addr
 i8:Addr
 find:Addr
 good:Addr
 meet:Addr
 place:Addr
 cancel:Addr
 change:Addr
 wanted:Addr
 jN:Addr
 jY:Addr
 call:Addr
 done:Addr
 is:Addr
 same:Addr
 left:Addr
 shown:Addr
 uu:Addr
 depth:Addr
structure eE(K:W.Frag)(mg:Str->Option Value)(c:Cs)(r:iC):Prop where
 new:Dn K "_law_new" "_law_new" N5 r.new []
 P_:mg "_law_new"=some (.ref r.new)
 first:Dn K "_law_first" "_law_first" MW r.first ["_law_one"]
 P5:mg "_law_first"=some (.ref r.first)
 side:Dn K "_law_side" "_law_side" NB r.side ["_law_world","_law_side_here"]
 sZ:mg "_law_side"=some (.ref r.side)
 put:Dn K "_law_put" "_law_put" N4 r.put ["_law_world","_law_one"]
 zh:mg "_law_put"=some (.ref r.put)
 uk:Dn K "_law_show" "_law_show" NC r.uk ["_law_one"]
 DL:mg "_law_show"=some (.ref r.uk)
 gone:Dn K "_law_gone" "_law_gone" NH r.gone ["_law_world","_law_number"]
 vQ:mg "_law_gone"=some (.ref r.gone)
 i8:Dn K "_law_suits" "_law_suits" ME r.i8 ["_law_side_here","_law_limit","_law_price_here"]
 pj:mg "_law_suits"=some (.ref r.i8)
 find:Dn K "_law_find" "_law_find" NI r.find ["_law_world","_law_number"]
 ph:mg "_law_find"=some (.ref r.find)
 good:Dn K "_law_good" "_law_good" NG r.good ["_law_side_here","_law_price_here","_law_many","_law_shows","_law_way"]
 P6:mg "_law_good"=some (.ref r.good)
 meet:Dn K "_law_meet" "_law_meet" NF r.meet ["_law_world","_law_new_here","_law_others"]
 vR:mg "_law_meet"=some (.ref r.meet)
 place:Dn K "_law_place" "_law_place" MG r.place ["_law_world","_law_owner","_law_side_here","_law_price_here","_law_many","_law_shows","_law_way"]
 vS:mg "_law_place"=some (.ref r.place)
 cancel:Dn K "_law_cancel" "_law_cancel" MP r.cancel ["_law_world","_law_number"]
 vO:mg "_law_cancel"=some (.ref r.cancel)
 change:Dn K "_law_change" "_law_change" MO r.change ["_law_world","_law_number","_law_many"]
 vP:mg "_law_change"=some (.ref r.change)
 wanted:Dn K "_law_wanted" "_law_wanted" MN r.wanted ["_law_world","_law_side_here","_law_price_here"]
 DN:mg "_law_wanted"=some (.ref r.wanted)
 jN:Dn K "_law_call_price" "_law_call_price" MB r.jN ["_law_world"]
 vM:mg "_law_call_price"=some (.ref r.jN)
 jY:Dn K "_law_uncross" "_law_uncross" Mx r.jY ["_law_world"]
 vU:mg "_law_uncross"=some (.ref r.jY)
 call:Dn K "_law_call" "_law_call" NM r.call ["_law_world"]
 vL:mg "_law_call"=some (.ref r.call)
 done:Dn K "_law_done" "_law_done" NJ r.done ["_law_world","_law_deed_here"]
 P4:mg "_law_done"=some (.ref r.done)
 is:Dn K "_law_is" "_law_is" OC r.is ["_law_found","_law_due"]
 qy:mg "_law_is"=some (.ref r.is)
 same:Dn K "_law_same" "_law_same" ND r.same ["_law_book","_law_world"]
 Qb:mg "_law_same"=some (.ref r.same)
 left:Dn K "left" "Book.left" LA r.left ["self","number"]
 Si:Meth K c.B "left" r.left
 shown:Dn K "shown" "Book.shown" OA r.shown ["self","number"]
 Sk:Meth K c.B "shown" r.shown
 uu:Dn K "volume" "Book.volume" NZ r.uu ["self"]
 Sm:Meth K c.B "volume" r.uu
 depth:Dn K "depth" "Book.depth" Of r.depth ["self","side"]
 Sh:Meth K c.B "depth" r.depth
 Qf:mg "int"=none
section
variable {bW:ah} {a:c_} {n:fe} {u:fF} {e:gI} {r:iC}
theorem ae0:bc [] [] (aX N5):=bw
noncomputable def W0:Ws:=⟨[],0,0,false,none,0⟩
inductive af2(vs:List V)(H:Hp)(Q:VK)(_:XK):Prop
 |mk  (_:vs= []) (_:∀wa lo H',aL H H'->H wa=none->H lo=none->bP H' wa lo (λ_=>0) W0->Q (.ref wa) H')
theorem abQ(Wt:eE K mg c r):Kp P w K mg base 1 r.new [] af2:=Wt.new.kp λfd G=>by
 refine G.bT ae0 λ_ _ _ _ H _ _ _ _ h=>?_
 obtain⟨rfl,q⟩:=h
 refine⟨_,aD (a8 (BB (iQ aJ (fW ay) (iQ aJ aF (iQ aJ aF (iQ aJ g_ (iQ aJ aF (iQ aJ iA BJ)))))) rfl rfl (by simp) (by decide))),?_⟩
 refine λp hp=>⟨dM 0 rfl,λl hl=>⟨?_,W0.dat l,rfl,by show 6<=15;decide,?_⟩⟩
 ·rw[aw (a6 aB hl)]
  exact aB
 ·have SN:p≠l:=a6 aB hl
  have mE:H l=none:=by rw[aw SN.symm]at hl;exact hl
  refine q p l _ (λx o hx=>?_) hp mE ⟨aB,(aw SN.symm).trans aB,λe h=>absurd h (by simp[W0]),λe h=>absurd h (by simp[W0]),sC,dD _⟩
  rw[aw (a6 hx hp),aw (a6 hx mE),aw (a6 hx hp)]
  exact hx
theorem aeP:bc ["_law_one"] ["_law_one"] (aX MW):=bw
inductive afN(vs:List V)(H:Hp)(Q:VK)(_:XK):Prop
 |mk (p:Addr) (en:Ent) (_:vs= [.ref p]) (_:H p=some (.dK (oD en))) (_:∀t H',aL H H'->H' t=some (.tup [.int en.k1,.int (en.place+1)])->Q (.ref t) H')
theorem abF(Wt:eE K mg c r):Kp P w K mg base 1 r.first ["_law_one"] afN:=Wt.first.kp λfd G=>by
 refine G.bT aeP λ_ _ _ s _ _ _ _ hr h=>?_
 obtain⟨p,en,rfl,hp,q⟩:=h
 have hu:=fc hr
 refine⟨_,aD (a8 (eM (av (ba yz (a_ hu (pv 0)) (cv g9 (fW (av aF (av (AB BR aF) ay))) (x9 zk4 (by rfl) Wt.Qf (by decide+kernel) (av (je cQ (a_ hu (pv 0)) aJ (a9 _)) ay)) (λ_ _=>rfl))) (av (a_ hu (pv 0)) ay)))),?_⟩
 refine(rX rfl ⟨p,rX rfl ⟨cg hp rfl,?_⟩⟩)
 refine(rX rfl ⟨dM 2 rfl,λl hl=>?_⟩)
 have s1:=aQ (o:=.lst [.int 1,.int (-1)]) hl
 have g0:=s1 _ _ hp
 have Y9:decide (V.str (aH en.au)=V.str "buy")=en.au:=by cases en.au<;>decide+kernel
 refine(rX rfl ⟨p,rX rfl ⟨cg g0 rfl,rfl,.inr (rX rfl ?_)⟩⟩)
 rw[Y9]
 obtain⟨s,hs,hk,zW⟩:∃s:Int,kT ([.int 1,.int (-1)]:aa V) (if en.au=true then 1 else 0)=some (.int s)/\en.ar*s=en.k1/\(s=1\/s= -1):=by
  unfold Ent.k1
  cases en.au with
  |true=>exact⟨-1,bf (j:=1) rfl,by rw[aA rfl];omega,.inr rfl⟩
  |false=>exact⟨1,bf (j:=0) rfl,by rw[ax cb];omega,.inl rfl⟩
 refine⟨l,_,_,_,rfl,rfl,aK.of aB,hs,_,_,rfl,rfl,.inr (by rcases zW with z|z<;>rw[z]<;>decide),?_⟩
 dsimp only
 rw[hk]
 exact(rX rfl ⟨p,rX rfl ⟨cg g0 rfl,dM 2 rfl,λt ht=>q t _ (s1.trans (aQ ht)) aB⟩⟩)
end
end Fb
variable {W1 W':Fb.Ws}
namespace Fb
open PySem L2
theorem aeq{k:Nat}(r:bB (k+1) A):bB k A.in1.in1:=⟨r.hd,by have:=r.dp;show A.depth+3*k+5<_;omega,by have:=r.un;show A.units+1+1+16*k+200<_;omega⟩
noncomputable def dX(es:aa Ent)(P:Ent->ai)(g:Ent->V)(i:Nat)(x:V):ae V:=match es[i]? with
 |some y=>if P y=true then some (g y)else none
 |none=>none
theorem oA(es:aa Ent)(f:Ent->V)(P:Ent->ai)(g:Ent->V):((es.map f).zipIdx).filterMap (λq=>dX es P g q.2 q.1)=(es.filter P).map g:=by
 rw[<-aiK (ys:=es) f P g 0]
 congr 1
 funext q
 unfold dX
 rw[Nat.sub_zero]
 cases es[q.2]?<;>rfl
theorem U3:∀es:aa Ent,∃M:Int,∀e∈es,e.place+1<M
 | []=>⟨0,λ_ h=>absurd h (by simp)⟩
 |x::r=>by
  obtain⟨M,h⟩:=U3 r
  refine⟨if x.place+2<M then M else x.place+2,λe he=>?_⟩
  rcases hZ.mp he with rfl|he
  ·split<;>omega
  ·have:=h e he
   split<;>omega
section
variable {bW:ah} {a:c_} {n:fe} {u:fF} {e:gI} {r:iC}
theorem ae8:bc ["_law_one"] ["_law_one"] (aX NC):=bw
inductive agd(vs:List V)(H:Hp)(Q:VK)(_:XK):Prop
 |mk (p:Addr) (kv:List (Key×V)) (l:Int) (sh:Option Int) (_:vs= [.ref p]) (_:H p=some (.dK kv)) (_:kv.length<=20) (_:bQ kv (Sum.inr "left")=some (.int l)) (_:bQ kv (Sum.inr "shows")=some (oV sh)) (_:Q .aE (upd H p (.dK (putK kv (Sum.inr "shown") (.int (cp sh l))))))
theorem RP(C:bR K mg c)(Wt:eE K mg c r):Kp P w K mg base 1 r.uk ["_law_one"] agd:=Wt.uk.kp λfd G=>by
 refine G.bT ae8 λ_ _ _ _ H _ _ _ hr h=>?_
 obtain⟨p,kv,l,sh,rfl,hp,hlen,hl,lr,q⟩:=h
 have hu:=fc hr
 refine⟨_,aD (gQ hu (pv 0) aJ (rS (gB (jA (a_ hu (pv 0)))) (a_ hu (pv 0)) (c9 (pT rfl) (by rfl) C.min (by decide+kernel) (av (a_ hu (pv 0)) (av (a_ hu (pv 0)) ay)))) rfl),?_⟩
 refine(rX rfl ⟨p,rX rfl ⟨cg hp lr,rX rfl ?_⟩⟩)
 have put:eS H p (.str "shown") (.int (cp sh l)) (upd H p (.dK (putK kv (Sum.inr "shown") (.int (cp sh l))))):=eS.k (k:=Sum.inr "shown") hp (by rw[a7];omega)
 cases sh with
 |none=>exact bY rfl ⟨_,rfl,p,_,rfl,cg hp hl,_,rfl,p,_,rfl,put,q⟩
 |some k=>exact bj rfl ⟨_,rfl,p,_,rfl,cg hp lr,_,rfl,p,_,rfl,cg hp hl,_,_,rfl,_,rfl,p,_,rfl,put,q⟩
theorem aeQ:bc ["_law_world","_law_number"] ["_law_world","_law_number"] (aX NH):=bw
inductive afO(vs:List V)(H:Hp)(Q:VK)(_:XK):Prop
 |mk (wa lo:Addr) (ad:Int->Addr) (W:Ws) (k:Int) (_:vs= [.ref wa,.int k]) (_:bP H wa lo ad W) (_:∀cj H',bP H' wa cj ad {W with es:=W.es.filter λx=>decide (x.num≠k)}->cM wa H lo ad W H' cj ad {W with es:=W.es.filter λx=>decide (x.num≠k)}->(∀y o,H y=some o->y≠wa->H' y=some o)->Q .aE H')
theorem UL(W:Ws)(lo p:ah)(es:aa Ent):putK (W.dat lo) (Sum.inr "orders") (.ref p)={W with es:=es}.dat p:=rfl
theorem Fj(Wt:eE K mg c r):Kp P w K mg base 1 r.gone ["_law_world","_law_number"] afO:=Wt.gone.kp λfd G=>by
 refine G.bT aeQ λ_ _ _ _ _ _ _ _ hr h=>?_
 obtain⟨wa,lo,ad,W,k,rfl,R,q⟩:=h
 have hu:=fc hr
 refine⟨_,aD (gQ hu (pv 0) aJ (ou (own:=["_law_one"]) (caps:=[("_law_number",1)]) (g:=cT 0) (tc:=hV (e7 pM (ej (aW 0) (tC (.str "number"))) (aW 1))) (te:=aW 0) rfl (by decide+kernel) (oM ⟨rfl,rfl,rfl⟩) (by decide+kernel) rfl (by decide+kernel)
  (gz (a_ hu (pv 0))) (λ_ _ _ _ _=>eO (i:=0) (show(["_law_one","_law_number"]:aa Str).Nodup by decide+kernel) rfl (Or.inl (bV rfl)) (Or.inr (bV rfl)))
  (λ_ _ _ _ _=>lU (bC hX (a_ hu (pv 0 rfl (.inl (bV rfl)))) (pv 1 rfl (.inr (iu rfl))) (a9 _)))
  (λ_ _ _ _ _=>pv 0 rfl (.inl (bV rfl)))) rfl),?_⟩
 have ln:=R.ln
 refine⟨[.int k],rfl,oK rfl,_,rfl,wa,_,rfl,R.wg (pU W lo),lo,rfl,⟨_,aK.of R.l⟩,?_⟩
 refine oB (K:=K) (σ0:=List.replicate 1 none++ [some (.int k)]) (g:=cT 0) (tc:=hV (e7 pM (ej (aW 0) (tC (.str "number"))) (aW 1))) (te:=aW 0) (xs:=W.es.map λe=>.ref (ad e.num)) (dX W.es (λx=>decide (x.num≠k)) λe=>.ref (ad e.num)) (aK.of R.l) (by rw[bH,a7];omega) (λj x hx Rt Rf ht hf=>?_) λp hp=>?_
 ·obtain⟨y,hy,rfl⟩:=iS hx
  have hm:=d6 hy
  have hp:dX W.es (λx=>decide (x.num≠k)) (λe=>.ref (ad e.num)) j (.ref (ad y.num))=if decide (y.num≠k)=true then some (.ref (ad y.num))else none:=by unfold dX;rw[hy]
  refine(rX rfl ⟨ad y.num,rX rfl ⟨R.og hm rfl,rX rfl ⟨rfl,rX rfl ?_⟩⟩⟩)
  by_cases e:y.num=k
  ·exact bj (by rw[e];simp) (hf (by rw[hp];simp[e]))
  ·exact bY (by simp[e]) (rX rfl (ht _ (by rw[hp];simp[e])))
 ·rw[oA]
  obtain⟨R',F'⟩:=R.PK (λx=>decide (x.num≠k)) hp
  have s1:=aQ (o:=.lst ((W.es.filter λx=>decide (x.num≠k)).map λe=>V.ref (ad e.num))) hp
  refine(rX rfl ⟨wa,rX rfl ⟨eS.k (k:=Sum.inr "orders") (s1 _ _ R.w) (by rw[a7];show 6<16777216;decide),?_⟩⟩)
  rw[UL W lo p (W.es.filter λx=>decide (x.num≠k))]
  exact q p _ R' F' λy o hy hn=>(aw hn).trans (s1 _ _ hy)
theorem Tq:bc ["_law_world","_law_number","_law_found"] ["_law_world","_law_number"] (aX NI):=bw
inductive afL(vs:List V)(H:Hp)(Q:VK)(_:XK):Prop
 |mk (wa lo:Addr) (ad:Int->Addr) (W:Ws) (k:Int) (_:vs= [.ref wa,.int k]) (_:bP H wa lo ad W) (_:(∀x∈W.es,x.num=k->∀H',aL H H'->Q (.ref (ad k)) H')) (_:((∀x∈W.es,x.num≠k)->∀H',aL H H'->Q .aE H'))
theorem OK(Wt:eE K mg c r):Kp P w K mg base 1 r.find ["_law_world","_law_number"] afL:=Wt.find.kp λfd G=>by
 refine G.bT Tq λ_ _ _ _ _ _ Q _ hr h=>?_
 obtain⟨wa,lo,ad,W,k,rfl,R,q1,q2⟩:=h
 have hu:=fc hr
 refine⟨_,az (uI (i:=2) (own:=["_law_one"]) (caps:=[("_law_number",1)]) (g:=cT 0) (tc:=hV (e7 mW (ej (aW 0) (tC (.str "number"))) (aW 1))) (te:=aW 0) Tq.nd rfl (Or.inl rfl) rfl (by decide+kernel) (oM ⟨rfl,rfl,rfl⟩) (by decide+kernel) rfl (by decide+kernel)
   (gz (a_ hu (pv 0))) (λ_ _ _ _ _=>eO (i:=0) (show(["_law_one","_law_number"]:aa Str).Nodup by decide+kernel) rfl (Or.inl (bV rfl)) (Or.inr (bV rfl)))
   (λ_ _ _ _ _=>lU (bC cQ (a_ hu (pv 0 rfl (.inl (bV rfl)))) (pv 1 rfl (.inr (iu rfl))) (a9 _)))
   (λ_ _ _ _ _=>pv 0 rfl (.inl (bV rfl))))
  (aD (a8 (rS (Bp (pv 2) (λ_=>rfl)) (cv g9 (pv 2) aF (λ_ _=>rfl)) g_))),?_⟩
 have ln:=R.ln
 refine⟨[.int k],rfl,oK rfl,_,rfl,wa,_,rfl,R.wg (pU W lo),lo,rfl,⟨_,aK.of R.l⟩,?_⟩
 refine oB (K:=K) (σ0:=List.replicate 1 none++ [some (.int k)]) (g:=cT 0) (tc:=hV (e7 mW (ej (aW 0) (tC (.str "number"))) (aW 1))) (te:=aW 0) (xs:=W.es.map λe=>.ref (ad e.num)) (dX W.es (λx=>decide (x.num=k)) λe=>.ref (ad e.num)) (aK.of R.l) (by rw[bH,a7];omega) (λj x hx Rt Rf ht hf=>?_) λp hp=>?_
 ·obtain⟨y,hy,rfl⟩:=iS hx
  have hm:=d6 hy
  have hp:dX W.es (λx=>decide (x.num=k)) (λe=>.ref (ad e.num)) j (.ref (ad y.num))=if decide (y.num=k)=true then some (.ref (ad y.num))else none:=by unfold dX;rw[hy]
  refine(rX rfl ⟨ad y.num,rX rfl ⟨R.og hm rfl,rX rfl ⟨rfl,rX rfl ?_⟩⟩⟩)
  by_cases e:y.num=k
  ·exact bY (by rw[e];simp) (rX rfl (ht _ (by rw[hp];simp[e])))
  ·exact bj (by simp[e]) (hf (by rw[hp];simp[e]))
 ·rw[oA]
  have s1:=aQ (o:=.lst ((W.es.filter λx=>decide (x.num=k)).map λe=>V.ref (ad e.num))) hp
  cases ef:W.es.filter λx=>decide (x.num=k)with
  |nil=>
   refine(rX rfl ⟨false,.inl ⟨_,aK.of aB,rfl⟩,bF (q2 (λx hx z=>?_) _ (by rw[ef]at s1;exact s1))⟩)
   have:x∈W.es.filter λx=>decide (x.num=k):=List.mem_filter.mpr ⟨hx,bO z⟩
   rw[ef]at this
   simp at this
  |cons y t=>
   have hy:y∈W.es.filter λx=>decide (x.num=k):=by rw[ef];exact bA
   obtain⟨ig,gP⟩:=List.mem_filter.mp hy
   have gP:y.num=k:=eB gP
   refine(rX rfl ⟨true,.inl ⟨_,aK.of aB,rfl⟩,bL (rX rfl ⟨p,_,0,rX rfl ⟨rfl,aK.of aB,bf (j:=0) rfl,?_⟩⟩)⟩)
   show Q (.ref (ad y.num)) _
   rw[gP]
   exact q1 y ig gP _ (by rw[ef]at s1;exact s1)
theorem ae6:bc ["_law_world","_law_side_here"] ["_law_world","_law_side_here"] (aX NB):=bw
inductive TM(vs:List V)(H:Hp)(Q:VK)(_:XK):Prop
 |mk (wa lo:Addr) (ad:Int->Addr) (W:Ws) (b:Bool) (_:vs= [.ref wa,.str (aH b)]) (_:bP H wa lo ad W) (_:(∀x∈W.es,0<=x.place)) (_:(W.es.map (·.place)).Nodup) (_:∀l ss H',aL H H'->H l=none->ss.Perm (W.es.filter λx=>x.au==b)->eN ss->H' l=some (.lst (ss.map λe=>.ref (ad e.num)))->Q (.ref l) H')
theorem OJ(Z:jL mg)(Wt:eE K mg c r):Kp P w K mg base 3 r.side ["_law_world","_law_side_here"] TM:=Wt.side.kp λfd G=>by
 obtain⟨cK,G1,b1,k1⟩:=abF (P:=P) (w:=w) (base:=base) Wt
 refine G.bT ae6 λ_ _ _ _ _ _ _ _ hr h=>?_
 obtain⟨wa,lo,ad,W,b,rfl,R,eX,dg,q⟩:=h
 have hu:=fc hr
 have b_:bB 1 _:=aeq hr
 refine⟨_,aD (a8 (Vt (zgZ rfl G1 b_ b1 cO) (by rfl) Z.sorted (by decide+kernel) (av (ou (own:=["_law_one"]) (caps:=[("_law_side_here",1)]) (g:=cT 0) (tc:=hV (e7 mW (ej (aW 0) (tC (.str "side"))) (aW 1))) (te:=aW 0) rfl (by decide+kernel) (oM ⟨rfl,rfl,rfl⟩) (by decide+kernel) rfl (by decide+kernel)
   (gz (a_ hu (pv 0))) (λ_ _ _ _ _=>eO (i:=0) (show(["_law_one","_law_side_here"]:aa Str).Nodup by decide+kernel) rfl (Or.inl (bV rfl)) (Or.inr (bV rfl)))
   (λ_ _ _ _ _=>lU (bC cQ (a_ hu (pv 0 rfl (.inl (bV rfl)))) (pv 1 rfl (.inr (iu rfl))) (a9 _)))
   (λ_ _ _ _ _=>pv 0 rfl (.inl (bV rfl)))) ay) (Oa (v:=.ref r.first) (by rfl) Wt.P5 rfl))),?_⟩
 have ln:=R.ln
 refine⟨[.str (aH b)],rfl,oK rfl,_,rfl,wa,_,rfl,R.wg (pU W lo),lo,rfl,⟨_,aK.of R.l⟩,?_⟩
 refine oB (K:=K) (σ0:=List.replicate 1 none++ [some (.str (aH b))]) (g:=cT 0) (tc:=hV (e7 mW (ej (aW 0) (tC (.str "side"))) (aW 1))) (te:=aW 0) (xs:=W.es.map λe=>.ref (ad e.num)) (dX W.es (λx=>x.au==b) λe=>.ref (ad e.num)) (aK.of R.l) (by rw[bH,a7];omega) (λj x hx Rt Rf ht hf=>?_) λp hp=>?_
 ·obtain⟨y,hy,rfl⟩:=iS hx
  have hm:=d6 hy
  have hp:dX W.es (λx=>x.au==b) (λe=>.ref (ad e.num)) j (.ref (ad y.num))=if(y.au==b)=true then some (.ref (ad y.num))else none:=by unfold dX;rw[hy]
  have ll:decide (V.str (aH y.au)=V.str (aH b))=(y.au==b):=by cases y.au<;>cases b<;>decide+kernel
  refine(rX rfl ⟨ad y.num,rX rfl ⟨R.og hm rfl,rX rfl ⟨rfl,rX rfl ?_⟩⟩⟩)
  cases e:(y.au==b)with
  |true=>exact bY (ll.trans e) ⟨_,rfl,ht _ (by rw[hp,e];rfl)⟩
  |false=>exact bj (ll.trans e) (hf (by rw[hp,e];rfl))
 ·rw[oA]
  have s1:=aQ (o:=.lst ((W.es.filter λx=>x.au==b).map λe=>V.ref (ad e.num))) hp
  obtain⟨M,hM⟩:=U3 W.es
  have pC:∀{i:Nat} {y:Ent},(W.es.filter λx=>x.au==b)[i]?=some y->y∈W.es:=λ{i y} h=>(List.mem_filter.mp (d6 h)).1
  obtain⟨kf,ZM⟩:∃kf:Nat->Int×Int,kf=λi=>match(W.es.filter λx=>x.au==b)[i]? with|some y=>(y.k1,y.place+1) |none=>(0,0):=⟨_,rfl⟩
  have tQ:∀{i:Nat} {y:Ent},(W.es.filter λx=>x.au==b)[i]?=some y->kf i=(y.k1,y.place+1):=λ{i y} h=>by rw[ZM];show(match(W.es.filter λx=>x.au==b)[i]? with|some y=>(y.k1,y.place+1) |none=>(0,0))=_;rw[h]
  have lf:(W.es.filter λx=>x.au==b).length<=40:=eA (sy _ _) ln
  have Ec:∀{i:Nat},i< (W.es.filter λx=>x.au==b).length->∃y,(W.es.filter λx=>x.au==b)[i]?=some y:=λ{i} hi=>⟨_,jF hi⟩
  have ndp:((W.es.filter λx=>x.au==b).map (·.place)).Nodup:=(List.filter_sublist.map _).nodup dg
  refine⟨p,_,kf,M,rfl,rfl,aK.of aB,by rw[bH];omega,λi hi=>?_,λi j hi hj dH=>?_,λi x H' hx sm=>?_,λp2 pm H' sm eV gk Ef ju=>?_⟩
  ·rw[bH]at hi
   obtain⟨y,hy⟩:=Ec hi
   rw[tQ hy]
   have h1:=eX y (pC hy)
   have h2:=hM y (pC hy)
   exact⟨by show 0<=y.place+1;omega,h2⟩
  ·rw[bH]at hi hj
   obtain⟨y,hy⟩:=Ec hi
   obtain⟨z,hz⟩:=Ec hj
   rw[tQ hy,tQ hz]at dH
   have dH:y.place+1=z.place+1:=dH
   have e1:((W.es.filter λx=>x.au==b).map (·.place))[i]?=some y.place:=by rw[fN,hy];rfl
   have e2:((W.es.filter λx=>x.au==b).map (·.place))[j]?=some y.place:=by rw[fN,hz];show some z.place=_;congr 1;omega
   exact(List.getElem?_inj (by rw[bH];exact hi) ndp).mp (e1.trans e2.symm)
  ·obtain⟨y,hy,rfl⟩:=iS hx
   rw[tQ hy]
   exact⟨ad y.num,y,rfl,sm _ _ (s1 _ _ (R.o y (pC hy)).1),λt kP AS ht=>⟨AS,t,rfl,ht⟩⟩
  ·rw[bH]at gk
   obtain⟨gE,zt⟩:∃gE:Nat->Ent,∀i,i< (W.es.filter λx=>x.au==b).length->(W.es.filter λx=>x.au==b)[i]?=some (gE i):=⟨λi=>(W.es.filter λx=>x.au==b).getD i ⟨0,0,0,0,0,true,0,0,none,0,0,0⟩,λi hi=>by show _=some (List.getD _ i _);rw[uZ,jF hi];rfl⟩
   have bq:∀i∈pm,i< (W.es.filter λx=>x.au==b).length:=λi hi=>by simpa using gk.mem_iff.mp hi
   have eqv:(pm.map λi=>(((W.es.filter λx=>x.au==b).map λe=>V.ref (ad e.num)).getD i .aE))=(pm.map gE).map λe=>V.ref (ad e.num):=by
    rw[gG]
    refine qg λi hi=>?_
    show(((W.es.filter λx=>x.au==b).map λe=>V.ref (ad e.num)).getD i .aE)=V.ref (ad (gE i).num)
    rw[uZ,fN,zt i (bq i hi)]
    rfl
   rw[eqv]at ju
   refine q p2 (pm.map gE) H' (s1.trans sm) (s1.free eV) ?_ ?_ ju
   ·refine(gk.map gE).trans ?_
    have:(List.range (W.es.filter λx=>x.au==b).length).map gE=W.es.filter λx=>x.au==b:=by
     refine List.ext_getElem? λj=>?_
     rw[fN]
     by_cases hj:j< (W.es.filter λx=>x.au==b).length
     ·rw[List.getElem?_range hj,zt j hj]
      rfl
     ·rw[yE (by rw[yI];omega),yE (Nat.le_of_not_lt hj)]
      rfl
    rw[this]
   ·refine List.pairwise_map.mpr (Ef.imp_of_mem λ{i j} hi hj dH=>?_)
    rw[tQ (zt i (bq i hi)),tQ (zt j (bq j hj))]at dH
    have dH:(gE i).k1< (gE j).k1\/((gE i).k1=(gE j).k1/\(gE i).place+1< (gE j).place+1):=dH
    unfold Ent.lt klt
    omega
end
open PySem L2
noncomputable def Ws.put(W:Ws)(e:Ent):Ws:={W with es:=(W.es.filter λx=>decide (x.num≠e.num))++ [{e with place:=W.places,shown:=cp e.shows e.left}],places:=W.places+1}
noncomputable def gW(ad:Int->ah)(k:Int)(p:ah):Int->ah:=λx=>if x=k then p else ad x
theorem uG{k:Int}{p:ah}:gW ad k p k=p:=aA rfl
theorem rY{k x:Int}{p:ah}(h:x≠k):gW ad k p x=ad x:=ax h
section
variable {bW:ah} {a:c_} {n:fe} {u:fF} {e:gI} {r:iC}
theorem ae3:bc ["_law_world","_law_one"] ["_law_world","_law_one"] (aX N4):=bw
inductive af9(vs:List V)(H:Hp)(Q:VK)(_:XK):Prop
 |mk (wa lo oa:Addr) (ad:Int->Addr) (W:Ws) (kv:List (Key×V)) (en:Ent) (_:vs= [.ref wa,.ref oa]) (_:bP H wa lo ad W) (_:H oa=some (.dK kv)) (_:kv.length<=10) (_:oa≠wa) (_:(∀x∈W.es,ad x.num=oa->x.num=en.num)) (_:W.es.length<=38) (_:bQ kv (Sum.inr "number")=some (.int en.num)) (_:(∀p,bQ (putK kv (Sum.inr "place") (.int p)) (Sum.inr "left")=some (.int en.left))) (_:(∀p,bQ (putK kv (Sum.inr "place") (.int p)) (Sum.inr "shows")=some (oV en.shows))) (_:(∀p s,putK (putK kv (Sum.inr "place") (.int (p+1))) (Sum.inr "shown") (.int s)=oD {en with place:=p,shown:=s})) (_:∀cj H',bP H' wa cj (gW ad en.num oa) (W.put en)->(∀x o,H x=some o->¬cf wa lo ad W x->x≠oa->H' x=some o)->(∀x,cf wa cj (gW ad en.num oa) (W.put en) x->cf wa lo ad W x\/x=oa\/H x=none)->(∀x xs,H x=some (.lst xs)->H' x=some (.lst xs))->Q .aE H')
theorem aco(kv:aa (Key×V))(k:Key)(v:V):(putK kv k v).length<=kv.length+1:=by
 unfold putK
 split
 ·rw[bH]
  exact kM _
 ·rw[gF]
  exact bu _
theorem ziN(W:Ws)(lo:ah)(k:Int):putK (W.dat lo) (Sum.inr "places") (.int k)={W with places:=k}.dat lo:=rfl
theorem Fm(C:bR K mg c)(Wt:eE K mg c r):Kp P w K mg base 2 r.put ["_law_world","_law_one"] af9:=Wt.put.kp λfd G=>by
 obtain⟨cK,G1,b1,k1⟩:=RP (P:=P) (w:=w) (base:=base) C Wt
 refine G.bT ae3 λ_ _ _ _ H _ _ _ hr h=>?_
 obtain⟨wa,lo,oa,ad,W,kv,en,rfl,R,nT,qC,xp,E5,qF,ky,ZP,aaC,ER,q⟩:=h
 have hu:=fc hr
 refine⟨_,az (gQ hu (pv 0) aJ (ou (own:=["_law_other"]) (caps:=[("_law_one",1)]) (g:=cT 0) (tc:=hV (e7 pM (ej (aW 0) (tC (.str "number"))) (ej (aW 1) (tC (.str "number"))))) (te:=aW 0) rfl (by decide+kernel) (oM ⟨rfl,rfl,rfl⟩) (by decide+kernel) rfl (by decide+kernel)
   (gz (a_ hu (pv 0))) (λ_ _ _ _ _=>eO (i:=0) (show(["_law_other","_law_one"]:aa Str).Nodup by decide+kernel) rfl (Or.inl (bV rfl)) (Or.inr (bV rfl)))
   (λ_ _ _ _ _=>lU (bC hX (a_ hu (pv 0 rfl (.inl (bV rfl)))) (a_ hu (pv 1 rfl (.inr (iu rfl)))) (a9 _)))
   (λ_ _ _ _ _=>pv 0 rfl (.inl (bV rfl)))) rfl)
  (az (gQ hu (pv 0) aJ (ba gR (a_ hu (pv 0)) aF) rfl)
  (az (gQ hu (pv 1) aJ (a_ hu (pv 0)) rfl)
  (az (cP (bG G1 hr Wt.DL k1 b1 (av (pv 1) ay)))
  (aD (cP (lX l8 sF sG rJ (a_ hu (pv 0)) (av (pv 1) ay))))))),?_⟩
 have ln:=R.ln
 refine⟨[.ref oa],rfl,oK rfl,_,rfl,wa,_,rfl,R.wg (pU W lo),lo,rfl,⟨_,aK.of R.l⟩,?_⟩
 refine oB (K:=K) (σ0:=List.replicate 1 none++ [some (.ref oa)]) (g:=cT 0) (tc:=hV (e7 pM (ej (aW 0) (tC (.str "number"))) (ej (aW 1) (tC (.str "number"))))) (te:=aW 0) (xs:=W.es.map λe=>.ref (ad e.num)) (dX W.es (λx=>decide (x.num≠en.num)) λe=>.ref (ad e.num)) (aK.of R.l) (by rw[bH,a7];omega) (λj x hx Rt Rf ht hf=>?_) λp hp=>?_
 ·obtain⟨y,hy,rfl⟩:=iS hx
  have hm:=d6 hy
  have hp:dX W.es (λx=>decide (x.num≠en.num)) (λe=>.ref (ad e.num)) j (.ref (ad y.num))=if decide (y.num≠en.num)=true then some (.ref (ad y.num))else none:=by unfold dX;rw[hy]
  refine(rX rfl ⟨ad y.num,rX rfl ⟨R.og hm rfl,rX rfl ⟨oa,rX rfl ⟨cg nT ky,rfl,rX rfl ?_⟩⟩⟩⟩)
  by_cases e:y.num=en.num
  ·exact bj (by rw[e];simp) (hf (by rw[hp];simp[e]))
  ·exact bY (by simp[e]) (rX rfl (ht _ (by rw[hp];simp[e])))
 ·rw[oA]
  obtain⟨R1,F1⟩:=R.PK (λx=>decide (x.num≠en.num)) hp
  have s1:=aQ (o:=.lst ((W.es.filter λx=>decide (x.num≠en.num)).map λe=>V.ref (ad e.num))) hp
  have mR:oa≠p:=a6 nT hp
  refine(rX rfl ⟨wa,rX rfl ⟨eS.k (k:=Sum.inr "orders") (s1 _ _ R.w) (by rw[a7];show 6<16777216;decide),?_⟩⟩)
  rw[UL W lo p (W.es.filter λx=>decide (x.num≠en.num))]
  have Z4:upd (upd H p (.lst ((W.es.filter λx=>decide (x.num≠en.num)).map λe=>V.ref (ad e.num)))) wa (.dK ({W with es:=W.es.filter λx=>decide (x.num≠en.num)}.dat p)) oa=some (.dK kv):=by rw[aw xp,aw mR];exact nT
  generalize upd (upd H p (.lst ((W.es.filter λx=>decide (x.num≠en.num)).map λe=>V.ref (ad e.num)))) wa (.dK ({W with es:=W.es.filter λx=>decide (x.num≠en.num)}.dat p))=H1 at*
  refine(rX rfl ⟨wa,rX rfl ⟨R1.wg (VB _ _),r2 rfl rfl (rX rfl ⟨wa,rX rfl ⟨eS.k (k:=Sum.inr "places") R1.w (by rw[a7];show 6<16777216;decide),?_⟩⟩)⟩⟩)
  rw[ziN]
  have R2:=R1.lJ (W':={W with es:=W.es.filter λx=>decide (x.num≠en.num),places:=W.places+1}) rfl
  have F2:cM wa H1 p ad {W with es:=W.es.filter λx=>decide (x.num≠en.num)} (upd H1 wa (.dK ({W with es:=W.es.filter λx=>decide (x.num≠en.num),places:=W.places+1}.dat p))) p ad {W with es:=W.es.filter λx=>decide (x.num≠en.num),places:=W.places+1}:=by
   refine bP.AO R1.w ?_
   rfl
  have qL:upd H1 wa (.dK ({W with es:=W.es.filter λx=>decide (x.num≠en.num),places:=W.places+1}.dat p)) oa=some (.dK kv):=(aw xp).trans Z4
  generalize upd H1 wa (.dK ({W with es:=W.es.filter λx=>decide (x.num≠en.num),places:=W.places+1}.dat p))=H2 at*
  refine(rX rfl ⟨wa,rX rfl ⟨R2.wg (VB _ _),rX rfl ⟨oa,rX rfl ⟨eS.k (k:=Sum.inr "place") qL (by rw[a7];omega),?_⟩⟩⟩⟩)
  have QK:=aco kv (Sum.inr "place") (.int (W.places+1))
  refine(rX rfl ⟨oa,_,_,_,rfl,aB,by show(putK kv (Sum.inr "place") (.int (W.places+1))).length<=20;omega,ZP _,aaC _,?_⟩)
  rw[fb,ER W.places (cp en.shows en.left)]
  have qZ:∀{x:ah} {o:HO},H2 x=some o->x≠oa->upd H2 oa (.dK (oD {en with place:=W.places,shown:=cp en.shows en.left})) x=some o:=λ{x o} hx hn=>(aw hn).trans hx
  have SJ:p≠oa:=mR.symm
  refine⟨_,rfl,wa,_,rfl,cg (qZ R2.w λz=>xp z.symm) (pU _ _),.inl ⟨rfl,_,aK.of (qZ R2.l SJ)⟩,_,rfl,p,_,_,rfl,rfl,qZ R2.l SJ,by rw[bH,a7];have:=sy (λx:Ent=>decide (x.num≠en.num)) W.es;show(W.es.filter _).length<_;omega,?_⟩
  have vg:=F1.trans F2
  have wB:∀{x:Ent},x∈(W.put en).es->(x∈W.es/\x.num≠en.num)\/x={en with place:=W.places,shown:=cp en.shows en.left}:=λ{x} hx=>by
   rcases List.mem_append.mp hx with z|z
   ·obtain⟨h1,h2⟩:=List.mem_filter.mp z
    exact .inl ⟨h1,eB h2⟩
   ·exact .inr (List.mem_singleton.mp z)
  have hfl:=sy (λx:Ent=>decide (x.num≠en.num)) W.es
  refine q p _ ⟨?_,?_,λx hx=>?_,λx hx y hy z=>?_,?_,?_⟩ (λx o hx hn dh=>?_) (λx hx=>?_) λx xs h=>(aw (a6 h hp)).trans (qZ (vg.li x xs h) λz=>lY nT h z.symm)
  ·rw[aw (a6 R.w hp)]
   exact qZ R2.w λz=>xp z.symm
  ·rw[aB]
   show some (HO.lst _)=some (HO.lst (((W.es.filter λx:Ent=>decide (x.num≠en.num))++ [({en with place:=W.places,shown:=cp en.shows en.left}:Ent)]).map λe:Ent=>V.ref (gW ad en.num oa e.num)))
   have e1:(W.es.filter λx:Ent=>decide (x.num≠en.num)).map (λe:Ent=>V.ref (gW ad en.num oa e.num))=(W.es.filter λx:Ent=>decide (x.num≠en.num)).map λe:Ent=>V.ref (ad e.num):=qg λx hx=>by rw[rY (eB (List.mem_filter.mp hx).2)]
   rw[jh,e1]
   show some (HO.lst ((W.es.filter λx:Ent=>decide (x.num≠en.num)).map (λe:Ent=>V.ref (ad e.num))++ [V.ref oa]))=some (HO.lst ((W.es.filter λx:Ent=>decide (x.num≠en.num)).map (λe:Ent=>V.ref (ad e.num))++ [V.ref (gW ad en.num oa en.num)]))
   rw[uG]
  ·rcases wB hx with⟨h1,h2⟩ |rfl
   ·have hxf:x∈W.es.filter λx=>decide (x.num≠en.num):=List.mem_filter.mpr ⟨h1,bO h2⟩
    rw[rY h2]
    obtain⟨o1,o2⟩:=R2.o x hxf
    refine⟨?_,o2⟩
    rw[aw (lY o1 R2.l)]
    exact qZ o1 λz=>h2 (E5 x h1 z)
   ·show upd _ p _ (gW ad en.num oa en.num)=_/\gW ad en.num oa en.num≠wa
    rw[uG]
    exact⟨(aw mR).trans aB,xp⟩
  ·rcases wB hx with⟨h1,h2⟩ |rfl
   ·rcases wB hy with⟨h3,h4⟩ |rfl
    ·rw[rY h2,rY h4]at z
     exact R.nj x h1 y h3 z
    ·have z:gW ad en.num oa x.num=gW ad en.num oa en.num:=z
     rw[rY h2,uG]at z
     exact E5 x h1 z
   ·rcases wB hy with⟨h3,h4⟩ |rfl
    ·have z:gW ad en.num oa en.num=gW ad en.num oa y.num:=z
     rw[rY h4,uG]at z
     exact(E5 y h3 z.symm).symm
    ·rfl
  ·show(((W.es.filter λx:Ent=>decide (x.num≠en.num))++ [({en with place:=W.places,shown:=cp en.shows en.left}:Ent)]).map (·.num)).Nodup
   rw[jh]
   refine yq ((List.filter_sublist.map _).nodup R.nd) λhm=>?_
   obtain⟨y,hy,jT⟩:=u4.mp hm
   exact eB (List.mem_filter.mp hy).2 jT
  ·show((W.es.filter λx:Ent=>decide (x.num≠en.num))++ [({en with place:=W.places,shown:=cp en.shows en.left}:Ent)]).length<=40
   rw[gF,u3]
   omega
  ·rw[aw λz=>by rw[z,hp]at hx;cases hx]
   exact qZ (vg.kp x o hx hn) dh
  ·rcases hx with h|h| ⟨y,h,z⟩
   ·exact .inl (.inl h)
   ·exact .inr (.inr (by rw[h];exact hp))
   ·rcases wB h with⟨h1,h2⟩ |rfl
    ·rw[rY h2]at z
     exact .inl (.inr (.inr ⟨y,h1,z⟩))
    ·have z:x=gW ad en.num oa en.num:=z
     rw[uG]at z
     exact .inr (.inl z)
end
open PySem L2
theorem bP.keep{W:Ws}(R:bP H wa lo ad W)(k:∀x o,H x=some o->cf wa lo ad W x->H' x=some o):bP H' wa lo ad W:=
 ⟨k _ _ R.w (.inl rfl),k _ _ R.l (.inr (.inl rfl)),λe he=>⟨k _ _ (R.o e he).1 (.inr (.inr ⟨e,he,rfl⟩)),(R.o e he).2⟩,R.nj,R.nd,R.ln⟩
noncomputable def Ws.gone(W:Ws)(k:Int):Ws:={W with es:=W.es.filter λx=>decide (x.num≠k)}
noncomputable def Ws.meet(W:Ws)(ow l:Int)(x:Ent):Ev×Ws×Int:=
 if x.owner=ow then(.out x.num,W.gone x.num,l)
 else(.ip x.num x.ar (mn l x.shown),
  (if x.left-mn l x.shown=0 then Ws.gone {W with es:=bX W.es {x with left:=x.left-mn l x.shown,shown:=x.shown-mn l x.shown},last:=some x.ar,bE:=W.bE+mn l x.shown} x.num
   else if x.shown-mn l x.shown=0 then Ws.put {W with es:=bX W.es {x with left:=x.left-mn l x.shown,shown:=x.shown-mn l x.shown},last:=some x.ar,bE:=W.bE+mn l x.shown} {x with left:=x.left-mn l x.shown,shown:=x.shown-mn l x.shown}
   else{W with es:=bX W.es {x with left:=x.left-mn l x.shown,shown:=x.shown-mn l x.shown},last:=some x.ar,bE:=W.bE+mn l x.shown}),l-mn l x.shown)
theorem O9(ad:Int->ah)(k:Int):gW ad k (ad k)=ad:=by
 funext x
 unfold gW
 split
 ·rename_i h;rw[h]
 ·rfl
theorem VT{es:aa Ent}{x:Ent}(hx:x∈es)(hn:e'.num=x.num):e'∈bX es e':=u4.mpr ⟨x,hx,aA hn.symm⟩
section
variable {bW:ah} {a:c_} {n:fe} {u:fF} {e:gI} {r:iC}
theorem AM:bc ["_law_world","_law_new_here","_law_others","_law_one","_law_many","_law_both"] ["_law_world","_law_new_here","_law_others"] (aX NF):=bw
inductive af0(vs:List V)(H:Hp)(Q:VK)(_:XK):Prop
 |mk (wa lo na lt:Addr) (ad:Int->Addr) (W:Ws) (k ow:Int) (b:Bool) (pr:Option Int) (l:Int) (sh:Option Int) (x:Ent) (rest:List V) (_:vs= [.ref wa,.ref na,.ref lt]) (_:bP H wa lo ad W) (_:H na=some (.dK (cD k ow b pr l sh))) (_:¬cf wa lo ad W na) (_:x∈W.es) (_:H lt=some (.lst (.ref (ad x.num)::rest))) (_:W.es.length<=38) (_:∀t cj H',bP H' wa cj ad (W.meet ow l x).2.1->H' na=some (.dK (cD k ow b pr (W.meet ow l x).2.2 sh))->¬cf wa cj ad (W.meet ow l x).2.1 na->H' t=some (.tup (W.meet ow l x).1.vals)->(∀y o,H y=some o->¬cf wa lo ad W y->y≠na->H' y=some o)->(∀y,cf wa cj ad (W.meet ow l x).2.1 y->cf wa lo ad W y\/H y=none)->(∀y xs,H y=some (.lst xs)->H' y=some (.lst xs))->Q (.ref t) H')
theorem Vp(W:Ws)(lo:ah)(k:ae Int):putK (W.dat lo) (Sum.inr "last") (oV k)={W with last:=k}.dat lo:=rfl
theorem Vx(W:Ws)(lo:ah)(k:Int):putK (W.dat lo) (Sum.inr "volume") (.int k)={W with bE:=k}.dat lo:=rfl
theorem Vq(W:Ws)(lo:ah)(k:ai):putK (W.dat lo) (Sum.inr "calling") (.bl k)={W with aY:=k}.dat lo:=rfl
theorem zjF(W:Ws)(lo:ah)(k:Int):putK (W.dat lo) (Sum.inr "many") (.int k)={W with aG:=k}.dat lo:=rfl
theorem zjH(k ow:Int)(b:ai)(pr:ae Int)(l:Int)(sh:ae Int)(l':Int):putK (cD k ow b pr l sh) (Sum.inr "left") (.int l')=cD k ow b pr l' sh:=rfl
theorem MZ(x:Ent)(l':Int):putK (oD x) (Sum.inr "left") (.int l')=oD {x with left:=l'}:=rfl
theorem UK(x:Ent)(l':Int):putK (oD x) (Sum.inr "shown") (.int l')=oD {x with shown:=l'}:=rfl
theorem j4(n:Nat)(h:n<=20):n<sizeLine:=by rw[a7];omega
theorem abP(C:bR K mg c)(Wt:eE K mg c r):Kp P w K mg base 3 r.meet ["_law_world","_law_new_here","_law_others"] af0:=Wt.meet.kp λfd G=>by
 obtain⟨cK,G1,b1,k1⟩:=Fj (P:=P) (w:=w) (base:=base) Wt
 obtain⟨dG,G2,b2,k2⟩:=Fm (P:=P) (w:=w) (base:=base) C Wt
 refine G.bT AM λ_ _ _ s H _ _ _ hr h=>?_
 obtain⟨wa,lo,na,lt,ad,W,k,ow,b,pr,l,sh,x,rest,rfl,R,qK,kD,hx,bq,qF,q⟩:=h
 have hu:=fc hr
 have b_:bB 1 _:=hr.mono (by decide)
 refine⟨_,az (aZ 3 AM.nd (cv g9 (pv 2) aF (λ_ _=>rfl)))
  (az (bK (bC cQ (a_ hu (pv 3)) (a_ hu (pv 1)) (a9 _))
   (az (cP (bG G1 b_ Wt.vQ k1 b1 (av (pv 0) (av (a_ hu (pv 3)) ay)))) (aD (a8 (eM (av aJ (av (a_ hu (pv 3)) ay)))))) bZ)
  (az (aZ 4 AM.nd (c9 (pT rfl) (by rfl) C.min (by decide+kernel) (av (a_ hu (pv 1)) (av (a_ hu (pv 3)) ay))))
  (az (oI jG rfl (Oi (eM (av (pv 1) (av (pv 3) ay)))) (eO (i:=5) AM.nd rfl (Or.inl rfl)) (aD (gQ hu (pv 5) aJ (ba kJ (a_ hu (pv 5)) (pv 4)) rfl)))
  (az (gQ hu (pv 3) aJ (ba kJ (a_ hu (pv 3)) (pv 4)) rfl)
  (az (gQ hu (pv 0) aJ (a_ hu (pv 3)) rfl)
  (az (gQ hu (pv 0) aJ (ba gR (a_ hu (pv 0)) (pv 4)) rfl)
  (az (m9 (bK (bC cQ (a_ hu (pv 3)) aF (a9 _)) (aD (cP (bG G1 b_ Wt.vQ k1 b1 (av (pv 0) (av (a_ hu (pv 3)) ay)))))
   (aD (bK (bC cQ (a_ hu (pv 3)) aF (a9 _)) (aD (cP (bG G2 hr Wt.zh k2 b2 (av (pv 0) (av (pv 3) ay))))) bZ))))
  (aD (a8 (eM (av aJ (av (a_ hu (pv 3)) (av (a_ hu (pv 3)) (av (pv 4) ay)))))))))))))),?_⟩
 obtain⟨i5,n8⟩:=R.o x hx
 have FJ:na≠ad x.num:=λz=>kD (.inr (.inr ⟨x,hx,z⟩))
 have xh:na≠wa:=λz=>kD (.inl z)
 refine(rX rfl ⟨lt,_,0,rX rfl ⟨rfl,aK.of bq,bf (j:=0) rfl,rX rfl ⟨ad x.num,rX rfl ⟨cg i5 rfl,rX rfl ⟨na,rX rfl ⟨cg qK rfl,rfl,rX rfl ?_⟩⟩⟩⟩⟩⟩)
 unfold Ws.meet at q
 by_cases how:x.owner=ow
 ·rw[aA how]at q
  refine bY (bO (by rw[how])) (rX rfl (rX rfl ⟨ad x.num,rX rfl ⟨cg i5 rfl,wa,lo,ad,W,x.num,rfl,R,λcj H1 R1 F1 tS=>?_⟩⟩))
  have zQ:=tS _ _ i5 n8
  refine(rX rfl ⟨ad x.num,rX rfl ⟨cg zQ rfl,dM 2 rfl,λt ht=>?_⟩⟩)
  have s2:=aQ (o:=.tup [.str "out",.int x.num]) ht
  refine q t cj _ (R1.same s2) (s2 _ _ (tS _ _ qK xh)) (λz=>?_) aB (λy o hy hn _=>s2 _ _ (F1.kp y o hy hn)) F1.ft λy xs h=>s2 _ _ (F1.li y xs h)
  rcases F1.ft na z with z|z
  ·exact kD z
  ·rw[qK]at z
   cases z
 ·rw[ax how]at q
  refine bj (cW λz=>how (by injection z)) (rX rfl ⟨na,rX rfl ⟨cg qK rfl,rX rfl ⟨ad x.num,rX rfl ⟨cg i5 rfl,_,rX rfl ?_⟩⟩⟩⟩)
  refine(rX rfl (rX rfl ⟨dM 2 rfl,λpt wL=>⟨pt,rfl,⟨_,aM.of aB⟩,?_⟩⟩))
  have s1:=aQ (o:=.tup [.ref na,.ref (ad x.num)]) wL
  have qO:upd H pt (.tup [.ref na,.ref (ad x.num)]) pt=some (.tup [.ref na,.ref (ad x.num)]):=aB
  have R1:=R.same s1
  have EC:=s1 _ _ qK
  have zQ:=s1 _ _ i5
  have akw:∀{y:ah},H y=none->¬cf wa lo ad W y:=λ{y} hy z=>by
   rcases z with z|z| ⟨e,he,z⟩
   ·rw[z,R.w]at hy;cases hy
   ·rw[z,R.l]at hy;cases hy
   ·rw[z,(R.o e he).1]at hy;cases hy
  generalize upd H pt (.tup [.ref na,.ref (ad x.num)])=H1 at*
  refine NT (K:=K) (a:=pt) (xs:=[.ref na,.ref (ad x.num)]) (λj σ H'=>∃z5:ae V,σ= [some (.ref wa),some (.ref na),some (.ref lt),some (.ref (ad x.num)),some (.int (mn l x.shown)),z5]/\
   H'=(if j=0 then H1 else if j=1 then upd H1 na (.dK (cD k ow b pr (l- (mn l x.shown)) sh))else upd (upd H1 na (.dK (cD k ow b pr (l- (mn l x.shown)) sh))) (ad x.num) (.dK (oD {x with left:=x.left- (mn l x.shown)})))) ⟨_,rfl,rfl⟩ (λj σ H' hj h=>?_) ?_ ?_
  ·obtain⟨_,_,rfl⟩:=h
   have n1:pt≠na:=aN 7 6 qO EC
   have n2:pt≠ad x.num:=aN 7 6 qO zQ
   split
   ·exact aM.of qO
   ·split
    ·exact aM.of ((aw n1).trans qO)
    ·exact aM.of ((aw n2).trans ((aw n1).trans qO))
  ·rintro j y σ H' hj ⟨z5,rfl,rfl⟩
   rcases j with _|_|j
   ·obtain rfl:V.ref na=y:=cq hj
    refine(rX rfl ⟨na,rX rfl ⟨cg EC rfl,rX rfl (r2 rfl rfl (rX rfl ⟨na,rX rfl ⟨eS.k (k:=Sum.inr "left") EC (j4 6 (by decide)),rX rfl ?_⟩⟩))⟩⟩)
    rw[zjH]
    rfl
   ·obtain rfl:V.ref (ad x.num)=y:=cq hj
    have wK:upd H1 na (.dK (cD k ow b pr (l- (mn l x.shown)) sh)) (ad x.num)=some (.dK (oD x)):=(aw FJ.symm).trans zQ
    refine(rX rfl ⟨ad x.num,rX rfl ⟨cg wK rfl,rX rfl (r2 rfl rfl (rX rfl ⟨ad x.num,rX rfl ⟨eS.k (k:=Sum.inr "left") wK (j4 8 (by decide)),rX rfl ?_⟩⟩))⟩⟩)
    rw[MZ]
    rfl
   ·simp at hj
  ·rintro σ H' ⟨z5,rfl,rfl⟩
   show oj _ _ _ _ (upd (upd H1 na (.dK (cD k ow b pr (l- (mn l x.shown)) sh))) (ad x.num) (.dK (oD {x with left:=x.left- (mn l x.shown)})))
   have kpn:∀y o,H1 y=some o->cf wa lo ad W y->upd H1 na (.dK (cD k ow b pr (l- (mn l x.shown)) sh)) y=some o:=λy o hy ho=>(aw λz=>kD (by rw[<-z];exact ho)).trans hy
   have R2:=R1.keep kpn
   have zL:upd H1 na (.dK (cD k ow b pr (l- (mn l x.shown)) sh)) na=some (.dK (cD k ow b pr (l- (mn l x.shown)) sh)):=aB
   have li2:∀y xs,H y=some (.lst xs)->upd H1 na (.dK (cD k ow b pr (l- (mn l x.shown)) sh)) y=some (.lst xs):=λy xs h=>(aw λz=>lY qK h z.symm).trans (s1 _ _ h)
   have YE:∀y o,H y=some o->y≠na->upd H1 na (.dK (cD k ow b pr (l- (mn l x.shown)) sh)) y=some o:=λy o hy hn=>(aw hn).trans (s1 _ _ hy)
   generalize upd H1 na (.dK (cD k ow b pr (l- (mn l x.shown)) sh))=H2 at*
   have zR:upd H2 (ad x.num) (.dK (oD {x with left:=x.left- (mn l x.shown)})) (ad x.num)=some (.dK (oD {x with left:=x.left- (mn l x.shown)})):=aB
   refine(rX rfl ⟨ad x.num,rX rfl ⟨cg zR rfl,rX rfl (r2 rfl rfl (rX rfl ⟨ad x.num,rX rfl ⟨eS.k (k:=Sum.inr "shown") zR (j4 8 (by decide)),?_⟩⟩))⟩⟩)
   rw[UK,fb]
   obtain⟨x2,kA⟩:∃x2:Ent,x2={x with left:=x.left- (mn l x.shown),shown:=x.shown- (mn l x.shown)}:=⟨_,rfl⟩
   have mL:x2.num=x.num:=by rw[kA]
   obtain⟨R3,F3⟩:=R2.row (e':=x2) hx mL
   rw[show(oD {({x with left:=x.left- (mn l x.shown)}:Ent)with shown:=({x with left:=x.left- (mn l x.shown)}:Ent).shown- (mn l x.shown)})=oD x2 by rw[kA]]
   rw[<-kA]at q
   have tL:upd H2 (ad x.num) (.dK (oD x2)) na=some (.dK (cD k ow b pr (l- (mn l x.shown)) sh)):=(aw FJ).trans zL
   have vJ:∀y o,H y=some o->¬cf wa lo ad W y->y≠na->upd H2 (ad x.num) (.dK (oD x2)) y=some o:=λy o hy ho hn=>F3.kp y o (YE y o hy hn) ho
   have RZ:∀y xs,H y=some (.lst xs)->upd H2 (ad x.num) (.dK (oD x2)) y=some (.lst xs):=λy xs h=>F3.li y xs (li2 y xs h)
   have YF:∀y,cf wa lo ad {W with es:=bX W.es x2} y->cf wa lo ad W y:=λy hy=>by
    rcases F3.ft y hy with z|z
    ·exact z
    ·exfalso
     rcases hy with hy|hy| ⟨e,he,hy⟩
     ·rw[hy,R2.w]at z;cases z
     ·rw[hy,R2.l]at z;cases z
     ·obtain⟨e0,Zq,q0⟩:=u4.mp he
      have:ad e.num=ad e0.num:=by
       rw[<-q0]
       split
       ·rename_i h;rw[h]
       ·rfl
      rw[hy,this,(R2.o e0 Zq).1]at z
      cases z
   have qH:x2∈bX W.es x2:=VT hx mL
   generalize upd H2 (ad x.num) (.dK (oD x2))=H3 at*
   obtain⟨zS,_⟩:=R3.o x2 qH
   rw[mL]at zS
   have zU:bQ (oD x2) (Sum.inr "price")=some (.int x.ar):=by rw[kA];rfl
   have zO:bQ (oD x2) (Sum.inr "number")=some (.int x.num):=by rw[kA];rfl
   have ZQ:bQ (oD x2) (Sum.inr "left")=some (.int (x.left- (mn l x.shown))):=by rw[kA];rfl
   have qR:bQ (oD x2) (Sum.inr "shown")=some (.int (x.shown- (mn l x.shown))):=by rw[kA];rfl
   refine(rX rfl ⟨ad x.num,rX rfl ⟨cg zS zU,rX rfl ⟨wa,rX rfl ⟨eS.k (k:=Sum.inr "last") R3.w (j4 6 (by decide)),?_⟩⟩⟩⟩)
   rw[show V.int x.ar=oV (some x.ar)from rfl,Vp]
   have R4:=R3.lJ (W':={W with es:=bX W.es x2,last:=some x.ar}) rfl
   generalize Ql:upd H3 wa (.dK ({W with es:=bX W.es x2,last:=some x.ar}.dat lo))=H4 at*
   refine(rX rfl ⟨wa,rX rfl ⟨R4.wg (Mm _ _),rX rfl (r2 rfl rfl (rX rfl ⟨wa,rX rfl ⟨eS.k (k:=Sum.inr "volume") R4.w (j4 6 (by decide)),?_⟩⟩))⟩⟩)
   rw[Vx]
   have R5:=R4.lJ (W':={W with es:=bX W.es x2,last:=some x.ar,bE:=W.bE+(mn l x.shown)}) rfl
   have k5:∀y o,H3 y=some o->y≠wa->upd H4 wa (.dK ({W with es:=bX W.es x2,last:=some x.ar,bE:=W.bE+(mn l x.shown)}.dat lo)) y=some o:=λy o hy hn=>by
    rw[aw hn,<-Ql,aw hn]
    exact hy
   generalize upd H4 wa (.dK ({W with es:=bX W.es x2,last:=some x.ar,bE:=W.bE+(mn l x.shown)}.dat lo))=H5 at*
   have tM:=k5 _ _ zS n8
   have zM:=k5 _ _ tL xh
   have zf:∀y o,H y=some o->¬cf wa lo ad W y->y≠na->H5 y=some o:=λy o hy ho hn=>k5 y o (vJ y o hy ho hn) λz=>ho (.inl z)
   have li5:∀y xs,H y=some (.lst xs)->H5 y=some (.lst xs):=λy xs h=>k5 _ _ (RZ y xs h) λz=>lY R.w h z.symm
   clear R4 Ql R3 F3 tL vJ zS k5 RZ
   obtain⟨W5,zm⟩:∃W5:Ws,W5={W with es:=bX W.es x2,last:=some x.ar,bE:=W.bE+(mn l x.shown)}:=⟨_,rfl⟩
   rw[<-zm]at R5 q
   have DE:∀y,cf wa lo ad W5 y->cf wa lo ad W y:=by rw[zm];exact YF
   have Ez:x2∈W5.es:=by rw[zm];exact qH
   have ln5:W5.es.length<=38:=by rw[zm];show(bX W.es x2).length<=38;unfold bX;rw[bH];exact qF
   refine⟨λσ H'=>σ= [some (.ref wa),some (.ref na),some (.ref lt),some (.ref (ad x.num)),some (.int (mn l x.shown)),z5]/\∃cj W',W'=(if x.left- (mn l x.shown)=0 then W5.gone x.num else if x.shown- (mn l x.shown)=0 then W5.put x2 else W5)/\bP H' wa cj ad W'/\H' na=some (.dK (cD k ow b pr (l- (mn l x.shown)) sh))/\
    (∃kv,H' (ad x.num)=some (.dK kv)/\bQ kv (Sum.inr "number")=some (.int x.num)/\bQ kv (Sum.inr "price")=some (.int x.ar))/\(∀y o,H5 y=some o->¬cf wa lo ad W5 y->H' y=some o)/\(∀y,cf wa cj ad W' y->cf wa lo ad W5 y\/H5 y=none)/\∀y xs,H5 y=some (.lst xs)->H' y=some (.lst xs),?_,?_⟩
   ·refine(rX rfl ⟨ad x.num,rX rfl ⟨cg tM ZQ,rfl,rX rfl ?_⟩⟩)
    by_cases h0:x.left- (mn l x.shown)=0
    ·refine bY (bO (by rw[h0])) (rX rfl (rX rfl ⟨ad x.num,rX rfl ⟨cg tM zO,wa,lo,ad,W5,x.num,rfl,R5,λcj H6 R6 F6 RS=>⟨rfl,cj,_,by rw[aA h0];rfl,R6,RS _ _ zM xh,⟨_,RS _ _ tM n8,zO,zU⟩,F6.kp,F6.ft,F6.li⟩⟩⟩))
    ·refine bj (cW λz=>h0 (by injection z)) (rX rfl ⟨ad x.num,rX rfl ⟨cg tM qR,rfl,rX rfl ?_⟩⟩)
     by_cases h1:x.shown- (mn l x.shown)=0
     ·refine bY (bO (by rw[h1])) (rX rfl (rX rfl ⟨wa,lo,ad x.num,ad,W5,oD x2,x2,rfl,R5,tM,by show 8<=10;decide,n8,λy hy z=>?_,ln5,by rw[mL];exact zO,λp=>rfl,λp=>rfl,λp s=>rfl,λcj H6 R6 k6 f6 l6=>?_⟩))
      ·exact R5.nj y hy x2 Ez (by rw[z,mL])
      ·rw[mL,O9]at R6 f6
       have nna:¬cf wa lo ad W5 na:=λz=>kD (DE _ z)
       have EB:({x2 with place:=W5.places,shown:=cp x2.shows x2.left}:Ent)∈(W5.put x2).es:=iB _ bA
       obtain⟨o6,_⟩:=R6.o _ EB
       refine⟨rfl,cj,_,by rw[ax h0,aA h1],R6,k6 _ _ zM nna FJ,⟨_,by rw[<-mL];exact o6,by show some (V.int x2.num)=_;rw[mL],by show some (V.int x2.ar)=_;rw[kA]⟩,λy o hy ho=>k6 y o hy ho λz=>ho (.inr (.inr ⟨x2,Ez,by rw[mL];exact z⟩)),λy hy=>?_,l6⟩
       rcases f6 y hy with z|z|z
       ·exact .inl z
       ·exact .inl (.inr (.inr ⟨x2,Ez,by rw[mL];exact z⟩))
       ·exact .inr z
     ·exact bj (cW λz=>h1 (by injection z)) ⟨rfl,lo,_,by rw[ax h0,ax h1],R5,zM,⟨_,tM,zO,zU⟩,λy o hy _=>hy,λy hy=>.inl hy,λy xs h=>h⟩
   rintro σ H6 ⟨rfl,cj,W',YZ,R6,zN,⟨kv,cw,kn,kp⟩,k6,f6,l6⟩
   rw[<-YZ]at q
   refine(rX rfl ⟨ad x.num,rX rfl ⟨cg cw kn,rX rfl ⟨ad x.num,rX rfl ⟨cg cw kp,rX rfl ⟨dM 4 rfl,λt ht=>?_⟩⟩⟩⟩⟩)
   have s7:=aQ (o:=.tup [.str "trade",.int x.num,.int x.ar,.int (mn l x.shown)]) ht
   have PD:∀y,cf wa cj ad W' y->cf wa lo ad W y\/H y=none:=λy hy=>by
    rcases f6 y hy with z|z
    ·exact .inl (DE y z)
    ·by_cases ho:cf wa lo ad W y
     ·exact .inl ho
     ·by_cases hn:y=na
      ·rw[hn,zM]at z
       cases z
      ·cases e:H y with
       |none=>exact .inr rfl
       |some o=>
        rw[zf y o e ho hn]at z
        cases z
   refine q t cj _ (R6.same s7) (s7 _ _ zN) (λz=>?_) aB (λy o hy ho hn=>s7 _ _ (k6 y o (zf y o hy ho hn) λz=>ho (DE y z))) PD λy xs h=>s7 _ _ (l6 y xs (li5 y xs h))
   rcases PD na z with z|z
   ·exact kD z
   ·rw[qK]at z
    cases z
end
open PySem L2
noncomputable def Bk.all(B:Bk):aa Ent:=B.aU++B.aV
structure WB(W:Ws)(B:Bk):Prop where
 es:W.es.Perm (B.all.map Ent.er)
 ca:W.aG=B.aG
 pl:W.places=B.places
 cl:W.aY=B.aY
 la:W.last=B.last
 vo:W.bE=B.bE
theorem dU{x:Ent}:x∈B.all↔∃b,x∈B.at b:=by
 unfold Bk.all
 rw[List.mem_append]
 constructor
 ·rintro(h|h)
  ·exact⟨true,h⟩
  ·exact⟨false,h⟩
 ·rintro⟨b,h⟩
  cases b
  ·exact .inr h
  ·exact .inl h
theorem WB.mem{W:Ws}(h:WB W B){x:Ent}:x∈W.es↔∃b,∃y∈B.at b,y.er=x:=by
 rw[h.es.mem_iff,u4]
 constructor
 ·rintro⟨y,hy,z⟩
  obtain⟨b,hb⟩:=dU.mp hy
  exact⟨b,y,hb,z⟩
 ·rintro⟨b,y,hy,z⟩
  exact⟨y,dU.mpr ⟨b,hy⟩,z⟩
theorem lt_asymm{x:Ent}(h:x.lt y)(h':y.lt x):False:=by
 unfold Ent.lt klt at h h'
 omega
theorem Vn:∀{xs ys:aa Ent},eN xs->eN ys->xs.Perm ys->xs=ys
 | [],ys,_,_,h=>by rw[h.symm.eq_nil]
 |x::r,ys,hx,hy,h=>by
  cases ys with
  |nil=>exact absurd h.length_eq (by simp)
  |cons y t=>
   obtain⟨x1,x2⟩:=List.pairwise_cons.mp hx
   obtain⟨y1,y2⟩:=List.pairwise_cons.mp hy
   have e:x=y:=by
    have kB:x∈y::t:=h.mem_iff.mp bA
    have mM:y∈x::r:=h.mem_iff.mpr bA
    rcases hZ.mp kB with z|z
    ·exact z
    ·rcases hZ.mp mM with z'|z'
     ·exact z'.symm
     ·exact absurd (x1 y z') λw=>lt_asymm w (y1 x z)
   subst e
   rw[Vn x2 y2 ((List.perm_cons x).mp h)]
theorem Vc(h:eN xs):eN (xs.map Ent.er):=List.pairwise_map.mpr (h.imp λh=>h)
theorem Nd(ok:B.Ok)(b:ai):(B.all.filter λx=>x.au==b)=B.at b:=by
 unfold Bk.all
 rw[List.filter_append]
 have h1:∀x∈B.aU,x.au=true:=ok.sd true
 have h2:∀x∈B.aV,x.au=false:=ok.sd false
 cases b with
 |true=>
  rw[List.filter_eq_self.mpr λx hx=>by rw[h1 x hx];rfl,List.filter_eq_nil_iff.mpr λx hx=>by rw[h2 x hx];decide,B4]
  rfl
 |false=>
  rw[List.filter_eq_nil_iff.mpr λx hx=>by rw[h1 x hx];decide,List.filter_eq_self.mpr λx hx=>by rw[h2 x hx];rfl,List.nil_append]
  rfl
theorem WB.side{W:Ws}(h:WB W B)(ok:B.Ok){ss:aa Ent}(hp:ss.Perm (W.es.filter λx=>x.au==b))(hs:eN ss):ss=(B.at b).map Ent.er:=by
 refine Vn hs (Vc (ok.so b)) (hp.trans ((h.es.filter _).trans ?_))
 rw[B7]
 have:((λx:Ent=>x.au==b)∘Ent.er)=λx:Ent=>x.au==b:=by funext x;rfl
 rw[this,Nd ok]
theorem OM(ok:B.Ok):(B.all.map (·.num)).Nodup:=by
 unfold Bk.all
 rw[jh]
 refine List.nodup_append.mpr ⟨ok.nd true,ok.nd false,λx hx y hy z=>?_⟩
 obtain⟨e,he,q⟩:=u4.mp hx
 obtain⟨e',mC,q'⟩:=u4.mp hy
 exact ok.nx e he e' mC (by rw[q,q',z])
theorem Xo(ok:B.Ok){x:Ent}(hx:x∈B.all)(hy:y∈B.all)(h:x.num=y.num):x=y:=qa (OM ok) hx hy h
theorem VO{ys:aa Ent}(hx:(xs.map (·.num)).Nodup)(hy:(ys.map (·.num)).Nodup)(h:∀z,z∈xs↔z∈ys):xs.Perm ys:=by
 have nd:∀{l:aa Ent},(l.map (·.num)).Nodup->l.Nodup:=λ{l} hl=>(List.pairwise_map.mp hl).imp λh z=>h (by rw[z])
 exact(List.perm_ext_iff_of_nodup (nd hx) (nd hy)).mpr h
theorem Ww(xs:aa Ent):(xs.map Ent.er).map (·.num)=xs.map (·.num):=by
 rw[gG]
 rfl
theorem WB.of{W:Ws}(ok:B.Ok)(nd:(W.es.map (·.num)).Nodup)(mem:∀x,x∈W.es↔∃y∈B.all,y.er=x)(ca:W.aG=B.aG)(pl:W.places=B.places)(cl:W.aY=B.aY)(la:W.last=B.last)(vo:W.bE=B.bE):WB W B:=by
 refine⟨VO nd (by rw[Ww];exact OM ok) λz=>?_,ca,pl,cl,la,vo⟩
 rw[mem,u4]
theorem WB.nd{W:Ws}(h:WB W B)(ok:B.Ok):(W.es.map (·.num)).Nodup:=by
 rw[(h.es.map (·.num)).nodup_iff,Ww]
 exact OM ok
theorem WB.in{W:Ws}(h:WB W B){x:Ent}:x∈W.es↔∃y∈B.all,y.er=x:=by
 rw[h.es.mem_iff,u4]
theorem WB.gone{W:Ws}(h:WB W B)(ok:B.Ok)(he:e∈B.at e.au):WB (W.gone e.num) (B.out e):=by
 obtain⟨q1,q2,q3,q4,q5⟩:=fG B e.au (dj e (B.at e.au))
 refine WB.of (ok.out e) ((List.filter_sublist.map _).nodup (h.nd ok)) (λx=>?_) (h.ca.trans q1.symm) (h.pl.trans q2.symm) (h.cl.trans q3.symm) (h.la.trans q4.symm) (h.vo.trans q5.symm)
 constructor
 ·intro hx
  obtain⟨h1,h2⟩:=List.mem_filter.mp hx
  obtain⟨y,hy,z⟩:=h.in.mp h1
  obtain⟨b,hb⟩:=dU.mp hy
  refine⟨y,dU.mpr ⟨b,?_⟩,z⟩
  have dc:y≠e:=λw=>eB h2 (by rw[<-z,w];rfl)
  by_cases iJ:b=e.au
  ·subst iJ
   show y∈(B.set e.au (dj e (B.at e.au))).at e.au
   rw[iw]
   exact(ye (ok.so _) he).mpr ⟨hb,dc⟩
  ·have:b= !e.au:=ix iJ
   subst this
   show y∈(B.set e.au (dj e (B.at e.au))).at (!e.au)
   rw[ir]
   exact hb
 ·rintro⟨y,hy,z⟩
  obtain⟨b,hb⟩:=dU.mp hy
  refine List.mem_filter.mpr ⟨h.in.mpr ⟨y,dU.mpr ⟨b,(pY (ok.so _) he hb).1⟩,z⟩,bO ?_⟩
  rw[<-z]
  exact(rQ ok he hb:y.num≠e.num)
theorem Oc(ok:B.Ok)(he:e∈B.at e.au)(l s:Int){x:Ent}:x∈(B.mod e l s).all↔x=e.as l s\/(x∈B.all/\x.num≠e.num):=by
 rw[dU]
 constructor
 ·rintro⟨b,hb⟩
  obtain⟨y,hy,q⟩:=oH hb
  by_cases hh:b=e.au/\y.num=e.num
  ·rw[aA hh]at q
   have:y=e:=by
    have h1:=hh.1
    subst h1
    exact qa (ok.nd _) hy he hh.2
   exact .inl (by rw[q,this])
  ·rw[ax hh]at q
   subst q
   exact .inr ⟨dU.mpr ⟨b,hy⟩,λz=>hh ⟨yd (b:=true) ok b e.au hy he z,z⟩⟩
 ·rintro(rfl| ⟨h1,h2⟩)
  ·exact⟨_,jZ he l s⟩
  ·obtain⟨b,hb⟩:=dU.mp h1
   refine⟨b,?_⟩
   by_cases iJ:b=e.au
   ·subst iJ
    show x∈(B.set e.au (eL e.num l s (B.at e.au))).at e.au
    rw[iw]
    unfold eL
    refine u4.mpr ⟨x,hb,?_⟩
    first|exact ax h2| (rw[ax h2])
   ·have:b= !e.au:=ix iJ
    subst this
    show x∈(B.set e.au (eL e.num l s (B.at e.au))).at (!e.au)
    rw[ir]
    exact hb
theorem N_{r:ah}{x:Ent}:x∈(B.put e r).all↔x={e with ra:=r,place:=B.places,shown:=cp e.shows e.left}\/x∈B.all:=by
 rw[dU]
 constructor
 ·rintro⟨b,hb⟩
  rcases j7 hb with⟨_,z⟩ |z
  ·exact .inl z
  ·exact .inr (dU.mpr ⟨b,z⟩)
 ·rintro(rfl|h)
  ·refine⟨e.au,?_⟩
   rw[pV]
   exact uE.mpr (.inl rfl)
  ·obtain⟨b,hb⟩:=dU.mp h
   exact⟨b,VU hb⟩
theorem adI(ok:B.Ok)(he:e∈B.at e.au){x:Ent}:x∈(B.out e).all↔x∈B.all/\x.num≠e.num:=by
 rw[dU]
 constructor
 ·rintro⟨b,hb⟩
  exact⟨dU.mpr ⟨b,(pY (ok.so _) he hb).1⟩,rQ ok he hb⟩
 ·rintro⟨h1,h2⟩
  obtain⟨b,hb⟩:=dU.mp h1
  refine⟨b,?_⟩
  have dc:x≠e:=λw=>h2 (by rw[w])
  by_cases iJ:b=e.au
  ·subst iJ
   show x∈(B.set e.au (dj e (B.at e.au))).at e.au
   rw[iw]
   exact(ye (ok.so _) he).mpr ⟨hb,dc⟩
  ·have:b= !e.au:=ix iJ
   subst this
   show x∈(B.set e.au (dj e (B.at e.au))).at (!e.au)
   rw[ir]
   exact hb
open PySem L2
theorem MU{es:aa Ent}(nd:(es.map (·.num)).Nodup)(he:e∈es)(hn:e'.num=e.num):y∈bX es e'↔y=e'\/(y∈es/\y.num≠e'.num):=by
 constructor
 ·intro h
  obtain⟨x,hx,q⟩:=u4.mp h
  by_cases c:x.num=e'.num
  ·rw[aA c]at q
   exact .inl q.symm
  ·rw[ax c]at q
   subst q
   exact .inr ⟨hx,c⟩
 ·rintro(rfl| ⟨h1,h2⟩)
  ·exact u4.mpr ⟨e,he,aA hn.symm⟩
  ·exact u4.mpr ⟨y,h1,ax h2⟩
theorem Nt{W:Ws}{k:Int}:y∈(W.gone k).es↔y∈W.es/\y.num≠k:=by
 show y∈W.es.filter _↔_
 rw[List.mem_filter,yP]
theorem BY{x:Ent}(h:x.er=y):x.num=y.num:=by rw[<-h];rfl
theorem WB.mod{W:Ws}(h:WB W B)(ok:B.Ok)(he:e∈B.at e.au)(l s:Int):WB {W with es:=bX W.es (e.as l s).er} (B.mod e l s):=by
 obtain⟨q1,q2,q3,q4,q5⟩:=fG B e.au (eL e.num l s (B.at e.au))
 have wq:e.er∈W.es:=h.in.mpr ⟨e,dU.mpr ⟨_,he⟩,rfl⟩
 refine WB.of (ok.mod e l s) (by show((bX W.es (e.as l s).er).map _).Nodup;rw[MT];exact h.nd ok) (λx=>?_) (h.ca.trans q1.symm) (h.pl.trans q2.symm) (h.cl.trans q3.symm) (h.la.trans q4.symm) (h.vo.trans q5.symm)
 refine(MU (e':=(e.as l s).er) (h.nd ok) wq rfl).trans ?_
 constructor
 ·rintro(rfl| ⟨h1,h2⟩)
  ·exact⟨_,(Oc ok he l s).mpr (.inl rfl),rfl⟩
  ·obtain⟨y,hy,z⟩:=h.in.mp h1
   exact⟨y,(Oc ok he l s).mpr (.inr ⟨hy,λw=>h2 ((BY z).symm.trans w)⟩),z⟩
 ·rintro⟨y,hy,rfl⟩
  rcases(Oc ok he l s).mp hy with rfl| ⟨h1,h2⟩
  ·exact .inl rfl
  ·exact .inr ⟨h.in.mpr ⟨y,h1,rfl⟩,h2⟩
theorem WB.put{W:Ws}(h:WB W B)(ok:B.Ok){r:ah}(hn:∀x∈B.all,x.num≠e.num)(fg:(B.put e r).Ok):WB (W.put e.er) (B.put e r):=by
 obtain⟨q1,q2,q3,q4,q5⟩:=uH B e r
 have hf:∀x∈W.es,x.num≠e.num:=λx hx=>by
  obtain⟨y,hy,z⟩:=h.in.mp hx
  rw[<-BY z]
  exact hn y hy
 have Zz:(W.es.filter λx=>decide (x.num≠e.er.num))=W.es:=List.filter_eq_self.mpr λx hx=>bO (hf x hx)
 have fu:(W.put e.er).es=W.es++ [{e.er with place:=W.places,shown:=cp e.shows e.left}]:=by
  show(W.es.filter λx=>decide (x.num≠e.er.num))++_=_
  rw[Zz]
  rfl
 refine WB.of fg ?_ (λx=>?_) (h.ca.trans q1.symm) ?_ (h.cl.trans q3.symm) (h.la.trans q4.symm) (h.vo.trans q5.symm)
 ·rw[fu,jh]
  refine yq (h.nd ok) λhm=>?_
  obtain⟨y,hy,z⟩:=u4.mp hm
  exact hf y hy z
 ·rw[fu,List.mem_append,List.mem_singleton]
  constructor
  ·rintro(h1|rfl)
   ·obtain⟨y,hy,z⟩:=h.in.mp h1
    exact⟨y,N_.mpr (.inr hy),z⟩
   ·refine⟨_,N_.mpr (.inl rfl),?_⟩
    rw[h.pl]
    rfl
  ·rintro⟨y,hy,rfl⟩
   rcases N_.mp hy with rfl|h1
   ·refine .inr ?_
    rw[h.pl]
    rfl
   ·exact .inl (h.in.mpr ⟨y,h1,rfl⟩)
 ·rw[q2,<-h.pl]
  rfl
theorem ad8(W:Ws)(e:Ent):(W.gone e.num).put e=W.put e:=by
 unfold Ws.put Ws.gone
 rw[List.filter_filter]
 simp
theorem WB.anew{W:Ws}(h:WB W B)(ok:B.Ok){r:ah}(he:e∈B.at e.au)(fg:((B.out e).put e r).Ok):WB (W.put e.er) ((B.out e).put e r):=by
 have:=(h.gone ok he).put (ok.out e) (r:=r) (λx hx=>((adI ok he).mp hx).2) fg
 have q:(W.gone e.num).put e.er=W.put e.er:=ad8 W e.er
 rw[q]at this
 exact this
theorem WB.fA{W:Ws}(h:WB W B)(p k:Int):WB {W with last:=some p,bE:=W.bE+k} (B.fA p k):=⟨h.es,h.ca,h.pl,h.cl,rfl,by show W.bE+k=B.bE+k;rw[h.vo]⟩
theorem WB.cX{W:Ws}(h:WB W B):WB {W with aG:=W.aG+1} B.cX:=⟨h.es,by show W.aG+1=B.aG+1;rw[h.ca],h.pl,h.cl,h.la,h.vo⟩
theorem WB.calls{W:Ws}(h:WB W B)(v:ai):WB {W with aY:=v} {B with aY:=v}:=⟨h.es,h.ca,h.pl,rfl,h.la,h.vo⟩
theorem WB.Sw{W:Ws}(h:WB W B)(ok:B.Ok)(he:e∈B.at e.au)(l s s':Int):WB (Ws.gone {W with es:=bX W.es (e.as l s').er} e.num) ((B.mod e l s).out (e.as l s)):=by
 have h1:=(h.mod ok he l s).gone (ok.mod e l s) (jZ he l s)
 refine⟨?_,h1.ca,h1.pl,h1.cl,h1.la,h1.vo⟩
 refine .trans ?_ h1.es
 have wq:e.er∈W.es:=h.in.mpr ⟨e,dU.mpr ⟨_,he⟩,rfl⟩
 have xj:∀s,(((Ws.gone {W with es:=bX W.es (e.as l s).er} e.num).es).map (·.num)).Nodup:=λs=>(List.filter_sublist.map _).nodup (by show((bX W.es (e.as l s).er).map _).Nodup;rw[MT];exact h.nd ok)
 refine VO (xj s') (xj s) λz=>?_
 rw[Nt,Nt]
 have hm:∀s,(z∈bX W.es (e.as l s).er/\z.num≠e.num)↔z∈W.es/\z.num≠e.num:=λs=>by
  rw[MU (h.nd ok) wq (e':=(e.as l s).er) rfl]
  constructor
  ·rintro⟨rfl|h1,h2⟩
   ·exact absurd rfl h2
   ·exact⟨h1.1,h2⟩
  ·rintro⟨h1,h2⟩
   exact⟨.inr ⟨h1,h2⟩,h2⟩
 exact(hm s').trans (hm s).symm
theorem WB.less{W:Ws}(h:WB W B)(ok:B.Ok)(he:e∈B.at e.au)(k:Int)(r:ah):WB (if e.left-k=0 then Ws.gone {W with es:=bX W.es (e.as (e.left-k) (e.shown-k)).er} e.num else if e.shown-k=0 then Ws.put {W with es:=bX W.es (e.as (e.left-k) (e.shown-k)).er} (e.as (e.left-k) (e.shown-k)).er else{W with es:=bX W.es (e.as (e.left-k) (e.shown-k)).er}) (B.less e k r):=by
 have xw:=ok.less he k r
 unfold Bk.less at xw ⊢
 by_cases h0:e.left-k=0
 ·rw[aA h0]at xw ⊢
  rw[aA h0]
  exact h.Sw ok he _ _ _
 ·rw[ax h0]at xw ⊢
  rw[ax h0]
  by_cases h1:e.shown-k=0
  ·rw[aA h1]at xw ⊢
   rw[aA h1]
   exact(h.mod ok he _ _).anew (ok.mod e _ _) (jZ he _ _) xw
  ·rw[ax h1]
   rw[ax h1]
   exact h.mod ok he _ _
theorem WB.acJ{W:Ws}(h:WB W B)(ok:B.Ok)(he:e∈B.at e.au)(how:e.owner=ow):W.meet ow l e.er=(.out e.num,W.gone e.num,l)/\WB (W.meet ow l e.er).2.1 (B.out e):=by
 have q:W.meet ow l e.er=(.out e.num,W.gone e.num,l):=by
  unfold Ws.meet
  rw[aA (show e.er.owner=ow from how)]
  rfl
 refine⟨q,?_⟩
 rw[q]
 exact h.gone ok he
theorem WB.FC{W:Ws}(h:WB W B)(ok:B.Ok)(he:e∈B.at e.au)(how:e.owner≠ow)(r:ah):(W.meet ow l e.er).1= .ip e.num e.ar (mn l e.shown)/\(W.meet ow l e.er).2.2=l-mn l e.shown/\WB (W.meet ow l e.er).2.1 ((B.less e (mn l e.shown) r).fA e.ar (mn l e.shown)):=by
 have h1:=(h.less ok he (mn l e.shown) r).fA e.ar (mn l e.shown)
 have mH:¬e.er.owner=ow:=how
 refine⟨by unfold Ws.meet;rw[ax mH];rfl,by unfold Ws.meet;rw[ax mH];rfl,?_⟩
 have q:(W.meet ow l e.er).2.1={(if e.left-mn l e.shown=0 then Ws.gone {W with es:=bX W.es (e.as (e.left-mn l e.shown) (e.shown-mn l e.shown)).er} e.num else if e.shown-mn l e.shown=0 then Ws.put {W with es:=bX W.es (e.as (e.left-mn l e.shown) (e.shown-mn l e.shown)).er} (e.as (e.left-mn l e.shown) (e.shown-mn l e.shown)).er else{W with es:=bX W.es (e.as (e.left-mn l e.shown) (e.shown-mn l e.shown)).er})with last:=some e.ar,bE:=(if e.left-mn l e.shown=0 then Ws.gone {W with es:=bX W.es (e.as (e.left-mn l e.shown) (e.shown-mn l e.shown)).er} e.num else if e.shown-mn l e.shown=0 then Ws.put {W with es:=bX W.es (e.as (e.left-mn l e.shown) (e.shown-mn l e.shown)).er} (e.as (e.left-mn l e.shown) (e.shown-mn l e.shown)).er else{W with es:=bX W.es (e.as (e.left-mn l e.shown) (e.shown-mn l e.shown)).er}).bE+mn l e.shown}:=by
  unfold Ws.meet
  rw[ax mH]
  show(if e.left-mn l e.shown=0 then _ else if e.shown-mn l e.shown=0 then _ else _)=_
  by_cases h0:e.left-mn l e.shown=0
  ·rw[aA h0,aA h0]
   rfl
  ·rw[ax h0,ax h0]
   by_cases h2:e.shown-mn l e.shown=0
   ·rw[aA h2,aA h2]
    rfl
   ·rw[ax h2,ax h2]
    rfl
 rw[q]
 exact h1
noncomputable def Ws.chg(W:Ws)(x:Ent)(k:Int):Ws:=if x.left<k then Ws.put {W with es:=bX W.es (x.as k (mn x.shown k))} (x.as k (mn x.shown k))else{W with es:=bX W.es (x.as k (mn x.shown k))}
theorem WB.chg{W:Ws}(h:WB W B)(ok:B.Ok)(he:e∈B.at e.au)(hs:e.shown<=e.left){k:Int}{r:ah}(fg:(B.chg e k r).Ok):WB (W.chg e.er k) (B.chg e k r):=by
 unfold Bk.chg at fg ⊢
 unfold Ws.chg
 by_cases hk:e.left<k
 ·rw[aA hk]at fg ⊢
  rw[aA (show e.er.left<k from hk)]
  have hm:mn e.shown k=e.shown:=by unfold mn;split<;>omega
  have:=(h.mod ok he k e.shown).anew (ok.mod e _ _) (jZ he _ _) fg
  show WB (Ws.put {W with es:=bX W.es (e.er.as k (mn e.shown k))} (e.er.as k (mn e.shown k))) _
  rw[hm]
  exact this
 ·rw[ax hk]
  rw[ax (show ¬e.er.left<k from hk)]
  exact h.mod ok he _ _
noncomputable def Ws.aP(W:Ws)(x:Ent)(k:Int):Ws:=if x.left-k=0 then Ws.gone {W with es:=bX W.es (x.as (x.left-k) (cp x.shows (x.left-k)))} x.num else{W with es:=bX W.es (x.as (x.left-k) (cp x.shows (x.left-k)))}
theorem WB.aP{W:Ws}(h:WB W B)(ok:B.Ok)(he:e∈B.at e.au)(k:Int):WB (W.aP e.er k) (B.aP e k):=by
 unfold Bk.aP
 unfold Ws.aP
 by_cases h0:e.left-k=0
 ·rw[aA h0]
  rw[aA (show e.er.left-k=0 from h0)]
  exact h.Sw ok he _ _ _
 ·rw[ax h0]
  rw[ax (show ¬e.er.left-k=0 from h0)]
  exact h.mod ok he _ _
noncomputable def Bk.ws(B:Bk):Ws:=⟨B.all.map Ent.er,B.aG,B.places,B.aY,B.last,B.bE⟩
theorem WB.eF(B:Bk):WB B.ws B:=⟨.refl _,rfl,rfl,rfl,rfl,rfl⟩
theorem WB.swap{W:Ws}(h:WB W B)(h':WB W B')(g:WB W1 B):WB W1 B':=⟨g.es.trans (h.es.symm.trans h'.es),g.ca.trans (h.ca.symm.trans h'.ca),g.pl.trans (h.pl.symm.trans h'.pl),g.cl.trans (h.cl.symm.trans h'.cl),g.la.trans (h.la.symm.trans h'.la),g.vo.trans (h.vo.symm.trans h'.vo)⟩
theorem WB.bW{W:Ws}(h:WB W B)(h':WB W B')(ok:B.Ok)(fg:B'.Ok)(b:ai):(B.at b).map Ent.er=(B'.at b).map Ent.er:=by
 refine h'.side fg (b:=b) ?_ (Vc (ok.so b))
 have q:(B.all.map Ent.er).filter (λx=>x.au==b)=(B.at b).map Ent.er:=by
  rw[B7]
  have:((λx:Ent=>x.au==b)∘Ent.er)=λx:Ent=>x.au==b:=by funext x;rfl
  rw[this,Nd ok]
 rw[<-q]
 exact(h.es.symm.filter _)
open PySem L2
theorem WK:∀a:aa Int,HT.lexLt a a=false
 | []=>rfl
 |x::r=>by
  rw[HT.q_,aA rfl]
  exact WK r
theorem M6:∀{a b c:aa Int},HT.lexLt a b=true->HT.lexLt b c=true->HT.lexLt a c=true
 | [],[],_,h,_=>by cases h
 | [],_::_,[],_,h=>by cases h
 | [],_::_,_::_,_,_=>rfl
 |_::_,[],_,h,_=>by cases h
 |_::_,_::_,[],_,h=>by cases h
 |x::a,y::b,z::c,h1,h2=>by
  rw[HT.q_]at h1 h2 ⊢
  by_cases e1:x=y
  ·rw[aA e1]at h1
   by_cases e2:y=z
   ·rw[aA e2]at h2
    rw[aA (e1.trans e2)]
    exact M6 h1 h2
   ·rw[ax e2]at h2
    rw[ax (by rw[e1];exact e2),e1]
    exact h2
  ·rw[ax e1]at h1
   have h1:=eB h1
   by_cases e2:y=z
   ·rw[ax (by omega)]
    exact bO (by omega)
   ·rw[ax e2]at h2
    have h2:=eB h2
    rw[ax (by omega)]
    exact bO (by omega)
theorem Nk:∀{a b:aa Int},HT.lexLt a b=false->HT.lexLt b a=false->a=b
 | [],[],_,_=>rfl
 | [],_::_,h,_=>by cases h
 |_::_,[],_,h=>by cases h
 |x::a,y::b,h1,h2=>by
  rw[HT.q_]at h1 h2
  by_cases e:x=y
  ·rw[aA e]at h1
   rw[aA e.symm]at h2
   rw[e,Nk h1 h2]
  ·rw[ax e]at h1
   rw[ax (gH e)]at h2
   have h1:=yQ h1
   have h2:=yQ h2
   omega
theorem Bt:∀(r:aa (aa Int)) (b:aa Int),(bU b r=b\/bU b r∈r)/\HT.lexLt b (bU b r)=false/\∀x∈r,HT.lexLt x (bU b r)=false
 | [],b=>⟨.inl rfl,WK b,λx hx=>by simp at hx⟩
 |x::r,b=>by
  cases h:HT.lexLt x b with
  |true=>
   have st:bU b (x::r)=bU x r:=by
    show bU (if HT.lexLt x b=true then x else b) r=_
    rw[aA h]
   rw[st]
   obtain⟨m,h1,h2⟩:=Bt r x
   refine⟨.inr (m.elim (λe=>by rw[e];exact bA) λe=>cE _ e),?_,λy hy=>?_⟩
   ·cases z:HT.lexLt b (bU x r)with
    |false=>rfl
    |true=>
     rw[M6 h z]at h1
     cases h1
   ·rcases hZ.mp hy with rfl|hy
    ·exact h1
    ·exact h2 y hy
  |false=>
   have st:bU b (x::r)=bU b r:=by
    show bU (if HT.lexLt x b=true then x else b) r=_
    rw[ax (by rw[h];exact cb)]
   rw[st]
   obtain⟨m,h1,h2⟩:=Bt r b
   refine⟨m.elim .inl λe=>.inr (cE _ e),h1,λy hy=>?_⟩
   rcases hZ.mp hy with rfl|hy
   ·cases z:HT.lexLt y (bU b r)with
    |false=>rfl
    |true=>
     rcases m with m|m
     ·rw[m,h]at z
      cases z
     ·cases z2:HT.lexLt (bU b r) b with
      |true=>
       rw[M6 z z2]at h
       cases h
      |false=>
       have e:=Nk h1 z2
       rw[<-e,h]at z
       cases z
   ·exact h2 y hy
theorem ziS{b b':aa Int}{r r':aa (aa Int)}(h:∀x,x∈b::r↔x∈b'::r'):bU b r=bU b' r':=by
 obtain⟨m,h1,h2⟩:=Bt r b
 obtain⟨m',fR,gN⟩:=Bt r' b'
 have in1:bU b r∈b'::r':=(h _).mp (m.elim (λe=>by rw[e];exact bA) λe=>cE _ e)
 have pF:bU b' r'∈b::r:=(h _).mpr (m'.elim (λe=>by rw[e];exact bA) λe=>cE _ e)
 refine Nk ?_ ?_
 ·rcases hZ.mp in1 with e|e
  ·rw[e]
   exact fR
  ·exact gN _ e
 ·rcases hZ.mp pF with e|e
  ·rw[e]
   exact h1
  ·exact h2 _ e
open PySem L2
theorem heads{W:Ws}(h:WB W B)(h':WB W B')(ok:B.Ok)(fg:B'.Ok){r':aa Ent}(q:B.at b=e::r)(q':B'.at b=e'::r'):e.er=e'.er:=by
 have:=h.bW h' ok fg b
 rw[q,q']at this
 exact(yB this).1
theorem Yl{x:Ent}(h:x.er=y.er):x.num=y.num:=by injection h
theorem Pz{x:Ent}(h:x.er=y.er):x.owner=y.owner:=by injection h
theorem Ym{x:Ent}(h:x.er=y.er):x.ar=y.ar:=by injection h
theorem uQ(ok:B.Ok)(q:B.at b=e::r):e∈B.at e.au:=by
 have hm:e∈B.at b:=by rw[q];exact bA
 rw[ok.sd b e hm]
 exact hm
theorem yh{α:Type}{xs ys:aa α}{x y:α}(h:(xs++ [x]).length=(ys++ [y]).length):xs.length=ys.length:=by
 rw[gF,gF]at h
 exact Nat.succ.inj h
theorem eC.det(h:eC ow b pr B l aS B1 l1):
  B.Ok->∀{iG:aa Ev} {B2:Bk} {l2:Int},eC ow b pr B l iG B2 l2->aS.length=iG.length->aS=iG/\l1=l2/\∃W,WB W B1/\WB W B2:=by
 induction h with
 |nil=>
  intro ok iG B2 l2 h' hl
  cases h' with
  |nil=>exact⟨rfl,rfl,_,WB.eF _,WB.eF _⟩
  |out _ _ _ _ _=>simp at hl
  |ip _ _ _ _ _ _=>simp at hl
 |out met hx h0 hs how ih=>
  intro ok iG B2 l2 h' hl
  cases h' with
  |nil=>simp at hl
  |out lF cA zi i6 mH=>
   obtain⟨q1,q2,W,w1,w2⟩:=ih ok lF (yh hl)
   have o1:=(met.iO ok).2
   have o2:=(lF.iO ok).2
   have he:=heads w1 w2 o1 o2 hx cA
   have hn:=Yl he
   refine⟨by rw[q1,hn],q2,_,w1.gone o1 (uQ o1 hx),?_⟩
   rw[hn]
   exact w2.gone o2 (uQ o2 cA)
  |ip k lF cA zi i6 mH=>
   obtain⟨q1,q2,W,w1,w2⟩:=ih ok lF (yh hl)
   have he:=heads w1 w2 (met.iO ok).2 (lF.iO ok).2 hx cA
   have hn:=Pz he
   exact absurd (hn.symm.trans how) mH
 |ip k met hx h0 hs how ih=>
  intro ok iG B2 l2 h' hl
  cases h' with
  |nil=>simp at hl
  |out lF cA zi i6 mH=>
   obtain⟨q1,q2,W,w1,w2⟩:=ih ok lF (yh hl)
   have he:=heads w1 w2 (met.iO ok).2 (lF.iO ok).2 hx cA
   have hn:=Pz he
   exact absurd (hn.trans mH) how
  |ip k' lF cA zi i6 mH=>
   obtain⟨q1,q2,W,w1,w2⟩:=ih ok lF (yh hl)
   have o1:=(met.iO ok).2
   have o2:=(lF.iO ok).2
   have he:=heads w1 w2 o1 o2 hx cA
   subst q1 q2
   obtain⟨a1,a2,a3⟩:=w1.FC (l:=_) o1 (uQ o1 hx) how k
   obtain⟨c1,c2,c3⟩:=w2.FC (l:=_) o2 (uQ o2 cA) mH k'
   rw[<-he]at c1 c2 c3
   refine⟨?_,a2.symm.trans c2,_,a3,c3⟩
   rw[<-a1,<-c1]
theorem eC.pre(h:eC ow b pr B l aS B1 l1):
  ∀n,n<aS.length->∃Dy B0 l0 e r,eC ow b pr B l Dy B0 l0/\Dy.length=n/\B0.at (!b)=e::r/\l0≠0/\cy e.ar (aH b) pr=true:=by
 induction h with
 |nil=>intro n hn;simp at hn
 |out met hx h0 hs how ih=>
  intro n hn
  rw[gF]at hn
  rcases Nat.lt_or_eq_of_le (Nat.le_of_lt_succ hn)with h|h
  ·exact ih n h
  ·exact⟨_,_,_,_,_,met,h.symm,hx,h0,hs⟩
 |ip k met hx h0 hs how ih=>
  intro n hn
  rw[gF]at hn
  rcases Nat.lt_or_eq_of_le (Nat.le_of_lt_succ hn)with h|h
  ·exact ih n h
  ·exact⟨_,_,_,_,_,met,h.symm,hx,h0,hs⟩
theorem ac6(h0:l≠0)(hs:cy e.ar (aH b) pr=true):eu (e::r) l b pr≠.aE:=by
 have:eu (e::r) l b pr= .ref e.ea:=by simp[eu,h0,hs]
 rw[this]
 intro z
 cases z
theorem eC.le(h:eC ow b pr B l aS B1 l1)(h':eC ow b pr B l iG B2 l2)(ok:B.Ok)(st:eu (B1.at (!b)) l1 b pr= .aE):iG.length<=aS.length:=by
 rcases Nat.lt_or_ge aS.length iG.length with hl|hl
 ·obtain⟨Dy,B0,l0,e,r,m0,n0,hx,h0,hs⟩:=h'.pre _ hl
  obtain⟨q1,q2,W,w1,w2⟩:=h.det ok m0 n0.symm
  have ll:=w1.bW w2 (h.iO ok).2 (m0.iO ok).2 (!b)
  rw[hx]at ll
  cases hb:B1.at (!b)with
  |nil=>
   rw[hb]at ll
   cases ll
  |cons x t=>
   rw[hb]at ll st
   have he:x.er=e.er:=(yB ll).1
   have hp:=Ym he
   exact absurd st (ac6 (by rw[q2];exact h0) (by rw[hp];exact hs))
 ·exact hl
theorem eC.one(h:eC ow b pr B l aS B1 l1)(h':eC ow b pr B l iG B2 l2)(ok:B.Ok)(st:eu (B1.at (!b)) l1 b pr= .aE)(fC:eu (B2.at (!b)) l2 b pr= .aE):aS=iG/\l1=l2/\∃W,WB W B1/\WB W B2:=
 h.det ok h' (Nat.le_antisymm (h'.le h ok fC) (h.le h' ok st))
theorem eT.det{B0:Bk}{st:Int}(h:eT p B0 m0 ts B st):∀{iq:aa (Int×Int×Int)} {B':Bk} {fC:Int},eT p B0 m0 iq B' fC->ts.length=iq.length->ts=iq/\B=B'/\st=fC:=by
 induction h with
 |nil=>
  intro iq B' fC h' hl
  cases h' with
  |nil=>exact⟨rfl,rfl,rfl⟩
  |snoc _ _ _ _=>simp at hl
 |snoc t0 h0 hb hs ih=>
  intro iq B' fC h' hl
  cases h' with
  |nil=>simp at hl
  |snoc t0' zi cZ i6=>
   obtain⟨q1,q2,q3⟩:=ih t0' (yh hl)
   subst q1 q2 q3
   have e1:=(yB (hb.symm.trans cZ)).1
   have e2:=(yB (hs.symm.trans i6)).1
   subst e1 e2
   exact⟨rfl,rfl,rfl⟩
theorem eT.pre{B0:Bk}{st:Int}(h:eT p B0 m0 ts B st):∀n,n<ts.length->∃L6 B1 xM,eT p B0 m0 L6 B1 xM/\L6.length=n/\0<xM:=by
 induction h with
 |nil=>intro n hn;simp at hn
 |snoc t0 h0 hb hs ih=>
  intro n hn
  rw[gF]at hn
  rcases Nat.lt_or_eq_of_le (Nat.le_of_lt_succ hn)with h|h
  ·exact ih n h
  ·exact⟨_,_,_,t0,h.symm,h0⟩
theorem eT.le{B0:Bk}{fC:Int}(h:eT p B0 m0 ts B 0)(h':eT p B0 m0 iq B' fC):iq.length<=ts.length:=by
 rcases Nat.lt_or_ge ts.length iq.length with hl|hl
 ·obtain⟨L6,B1,xM,t0,n0,h0⟩:=h'.pre _ hl
  obtain⟨_,_,q⟩:=h.det t0 n0.symm
  omega
 ·exact hl
theorem eT.one{B0:Bk}(h:eT p B0 m0 ts B 0)(h':eT p B0 m0 iq B' 0):ts=iq/\B=B':=by
 obtain⟨q1,q2,_⟩:=h.det h' (Nat.le_antisymm (h'.le h) (h.le h'))
 exact⟨q1,q2⟩
theorem XO:∀{qs pL:aa Int},(∀p,p∈qs↔p∈pL)->kj (qs.map (bg B))=kj (pL.map (bg B))
 | [],[],_=>rfl
 | [],q::_,h=>absurd ((h q).mpr bA) (by simp)
 |q::_,[],h=>absurd ((h q).mp bA) (by simp)
 |q::r,q'::r',h=>by
  have e:bU (bg B q) (r.map (bg B))=bU (bg B q') (r'.map (bg B)):=by
   refine ziS λx=>?_
   show x∈(q::r).map (bg B)↔x∈(q'::r').map (bg B)
   constructor
   ·intro hx
    obtain⟨p,hp,e⟩:=u4.mp hx
    exact u4.mpr ⟨p,(h p).mp hp,e⟩
   ·intro hx
    obtain⟨p,hp,e⟩:=u4.mp hx
    exact u4.mpr ⟨p,(h p).mpr hp,e⟩
  show(if(bU (bg B q) (r.map (bg B))).headD 0=0 then none else some ((bU (bg B q) (r.map (bg B))).getD 3 0,-((bU (bg B q) (r.map (bg B))).headD 0)))=(if(bU (bg B q') (r'.map (bg B))).headD 0=0 then none else some ((bU (bg B q') (r'.map (bg B))).getD 3 0,-((bU (bg B q') (r'.map (bg B))).headD 0)))
  rw[e]
noncomputable def iU.rf:iU->iU->Prop
 | .mZ p ts,.mZ p' iq=>ts=iq/\(ts= []\/p=p')
 |a,a'=>a=a'
theorem o_.one{p':Int}(h:o_ B p ts B')(h':o_ B p' iq oW):(ts=iq/\(ts= []\/p=p'))/\B'=oW:=by
 obtain⟨qs,mem,h⟩:=h
 obtain⟨pL,acK,h'⟩:=h'
 rw[XO (qs:=pL) λx=>(acK x).trans (mem x).symm]at h'
 rcases h with⟨h,h1,h2⟩ | ⟨k,h,tr⟩
 ·rcases h' with⟨_,h3,h4⟩ | ⟨k',h',_⟩
  ·exact⟨⟨h1.trans h3.symm,.inl h1⟩,h2.trans h4.symm⟩
  ·rw[h]at h'
   cases h'
 ·rcases h' with⟨h',_⟩ | ⟨k',h',tr'⟩
  ·rw[h]at h'
   cases h'
  ·rw[h]at h'
   have z:=cq h'
   have z1:p=p':=dA Prod.fst z
   have z2:k=k':=dA Prod.snd z
   subst z1 z2
   obtain⟨q1,q2⟩:=tr.one tr'
   exact⟨⟨q1,.inr rfl⟩,q2⟩
theorem oX.one(ok:B.cX.Ok)(h:oX B ow b pr many way aS B1 l1)(h':oX B ow b pr many way iG B2 l2):aS=iG/\l1=l2/\∃W,WB W B1/\WB W B2:=by
 rcases h with⟨h,rfl,rfl,rfl⟩ | ⟨h,h1,h2,h3⟩
 ·rcases h' with⟨_,rfl,rfl,rfl⟩ | ⟨h',fR,_⟩
  ·exact⟨rfl,rfl,_,WB.eF _,WB.eF _⟩
  ·rcases h with h|h
   ·rw[h]at h';cases h'
   ·rw[h]at fR;cases fR
 ·rcases h' with⟨h',_⟩ | ⟨_,_,gN,DS⟩
  ·rcases h' with h'|h'
   ·rw[h]at h';cases h'
   ·rw[h1]at h';cases h'
  ·exact h2.one gN ok h3 DS
theorem oX.ok{ow:Int}{b:ai}{pr:ae Int}(ok:B.cX.Ok)(h:oX B ow b pr many way aS B1 l1):B1.Ok/\vl B.cX B1:=by
 rcases h with⟨_,_,rfl,_⟩ | ⟨_,_,h2,_⟩
 ·exact⟨ok,(eC.iO (.nil (ow:=ow) (b:=b) (pr:=pr) B.cX many) ok).1⟩
 ·exact⟨(h2.iO ok).2,(h2.iO ok).1⟩
theorem O_(ok:B.Ok)(hc:B.aG<400):B.cX.Ok:=⟨ok.so,ok.sd,ok.nd,ok.nx,λb e he=>⟨(ok.lt b e he).1,by have:=(ok.lt b e he).2;show e.num<B.aG+1;omega⟩,ok.pl,by have:=ok.ct;show _<=B.aG+1;exact Int.le_trans this (by omega),by show B.aG+1<=500;omega⟩
open PySem L2
theorem Na(ok:B.Ok)(lv:vl B.cX B2):∀x∈B2.all,x.num≠B.aG:=λx hx=>by
 obtain⟨b,hb⟩:=dU.mp hx
 obtain⟨y,hy,q,_⟩:=lv.nm b x hb
 have:y.num<B.aG:=(ok.lt b y hy).2
 omega
theorem uL.one(h:uL B ow b pr many shows way aS B')(h':uL B ow b pr many shows way iG oW)(ok:B.Ok)(hc:B.aG<=30)(fg:B'.Ok)(Ar:oW.Ok):aS=iG/\∃W,WB W B'/\WB W oW:=by
 obtain⟨B1,l1,c1,_,_,p1⟩:=h
 obtain⟨B2,l2,c2,_,_,p2⟩:=h'
 have FN:=O_ ok (by omega)
 obtain⟨q1,q2,W,w1,w2⟩:=c1.one FN c2
 obtain⟨o1,v1⟩:=c1.ok FN
 obtain⟨o2,v2⟩:=c2.ok FN
 subst q2
 refine⟨q1,?_⟩
 rcases p1 with⟨hw,hl,ce,o,p,r,hp,rfl⟩ | ⟨hn,rfl⟩
 ·rcases p2 with⟨_,_,ce',o',p',r',pB,rfl⟩ | ⟨hn,_⟩
  ·rw[hp]at pB
   obtain rfl:=cq pB
   exact⟨_,w1.put o1 (Na ok v1) fg,w2.put o2 (Na ok v2) Ar⟩
  ·exact absurd ⟨hw,hl⟩ hn
 ·rcases p2 with⟨hw,hl,_⟩ | ⟨_,rfl⟩
  ·exact absurd ⟨hw,hl⟩ hn
  ·exact⟨W,w1,w2⟩
theorem tf{p:Prop}{x:ai}(h:x=true)(h':x=false):p:=by rw[h]at h';cases h'
theorem fY.one{dd:Dd}(h:fY B dd f_ B')(h':fY B dd ia oW)(ok:B.Ok)(ps:B.Pos)(hc:B.aG<=30)(fg:B'.Ok)(Ar:oW.Ok):iU.rf f_ ia/\∃W,WB W B'/\WB W oW:=by
 have nl:∀{e e':Ent},e∈B.at e.au->e'∈B.at e'.au->e'.num=e.num->e'=e:=λh1 h2 h3=>Xo ok (dU.mpr ⟨_,h2⟩) (dU.mpr ⟨_,h1⟩) h3
 cases h with
 |bad hg=>cases h' with
  |bad _=>exact⟨rfl,_,WB.eF _,WB.eF _⟩
  |now nQ _ _=>exact tf nQ hg
  |pl nQ _ _=>exact tf nQ hg
 |now hg df hw=>cases h' with
  |bad nQ=>exact tf hg nQ
  |now _ _ _=>exact⟨rfl,_,WB.eF _,WB.eF _⟩
  |pl _ nW _=>exact absurd (nW df) hw
 |pl hg hw hp=>cases h' with
  |bad nQ=>exact tf hg nQ
  |now _ df nW=>exact absurd (hw df) nW
  |pl _ _ pB=>
   obtain⟨q,w⟩:=hp.one pB ok hc fg Ar
   subst q
   exact⟨rfl,w⟩
 |ca he hn=>cases h' with
  |ca mC qI=>
   obtain rfl:=nl he mC (qI.trans hn.symm)
   exact⟨rfl,_,WB.eF _,WB.eF _⟩
  |vv dh=>exact absurd hn (dh _ _ he)
 |vv dh=>cases h' with
  |ca he hn=>exact absurd hn (dh _ _ he)
  |vv _=>exact⟨rfl,_,WB.eF _,WB.eF _⟩
 |ch he hn hm=>cases h' with
  |ch mC qI zI=>
   obtain rfl:=nl he mC (qI.trans hn.symm)
   have:=ps.ps _ _ he
   exact⟨rfl,_,(WB.eF B).chg ok he this.2.1 fg,(WB.eF B).chg ok he this.2.1 Ar⟩
  |qo _ _ zI=>exact tf hm zI
  |sS dh=>exact absurd hn (dh _ _ he)
 |qo he hn hm=>cases h' with
  |ch _ _ zI=>exact tf zI hm
  |qo _ _ _=>exact⟨rfl,_,WB.eF _,WB.eF _⟩
  |sS dh=>exact absurd hn (dh _ _ he)
 |sS dh=>cases h' with
  |ch he hn _=>exact absurd hn (dh _ _ he)
  |qo he hn _=>exact absurd hn (dh _ _ he)
  |sS _=>exact⟨rfl,_,WB.eF _,WB.eF _⟩
 |cl df=>cases h' with
  |cl _=>exact⟨rfl,_,WB.eF _,WB.eF _⟩
  |vC pk=>exact tf pk df
 |vC df=>cases h' with
  |cl pk=>exact tf df pk
  |vC _=>exact⟨rfl,_,WB.eF _,WB.eF _⟩
 |un df hu=>cases h' with
  |un _ hu'=>
   obtain⟨q,rfl⟩:=hu.one hu'
   exact⟨q,_,WB.eF _,WB.eF _⟩
  |xO pk=>exact tf df pk
 |xO df=>cases h' with
  |un pk _=>exact tf pk df
  |xO _=>exact⟨rfl,_,WB.eF _,WB.eF _⟩
open PySem L2
section
variable {bW:ah} {a:c_} {n:fe} {u:fF} {e:gI} {r:iC}
theorem afc:bc ["_law_side_here","_law_limit","_law_price_here"] ["_law_side_here","_law_limit","_law_price_here"] (aX ME):=bw
inductive LW(vs:List V)(H:Hp)(Q:VK)(_:XK):Prop
 |mk (b:Bool) (pr:Option Int) (x:Int) (_:vs= [.str (aH b),oV pr,.int x]) (_:Q (.bl (cy x (aH b) pr)) H)
theorem WO(Wt:eE K mg c r):Kp P w K mg base 1 r.i8 ["_law_side_here","_law_limit","_law_price_here"] LW:=Wt.i8.kp λfd G=>by
 refine G.bT afc λ_ _ _ _ _ _ _ _ _ h=>?_
 obtain⟨b,pr,x,rfl,q⟩:=h
 refine⟨_,aD (a8 (FT (Oj (jA (pv 1))) (r_ (rS (bC cQ (pv 0) aJ (a9 _)) (je ng (pv 2) (pv 1) (a9 _)) (je Av (pv 2) (pv 1) (a9 _)))))),?_⟩
 cases pr with
 |none=>exact⟨_,rfl,true,rfl,bL q⟩
 |some y=>
  refine(rX rfl ⟨false,rfl,bF (rX rfl ⟨rfl,rX rfl ?_⟩)⟩)
  cases b with
  |true=>exact bY rfl ⟨_,rfl,_,rfl,_,_,rfl,rfl,q⟩
  |false=>exact bj rfl ⟨_,rfl,_,rfl,_,_,rfl,rfl,q⟩
theorem LM:bc ["_law_side_here","_law_price_here","_law_many","_law_shows","_law_way","_law_good_here"] ["_law_side_here","_law_price_here","_law_many","_law_shows","_law_way"] (aX NG):=bw
inductive afP(vs:List V)(H:Hp)(Q:VK)(_:XK):Prop
 |mk (ow:Int) (b:Bool) (pr:Option Int) (many:Int) (shows:Option Int) (way:Str) (_:vs= [.str (aH b),oV pr,.int many,oV shows,.str way]) (_:(Dd.pl ow b pr many shows way).Ok) (_:∀H',aL H H'->Q (.bl (dN (aH b) pr many shows way)) H')
theorem aff(b:ai):oC (aH b)=true:=by cases b<;>decide+kernel
theorem ahn(h:way="rest"\/way="now"\/way="whole"):uS way=true:=by rcases h with rfl|rfl|rfl<;>decide+kernel
theorem abG(Wt:eE K mg c r):Kp P w K mg base 1 r.good ["_law_side_here","_law_price_here","_law_many","_law_shows","_law_way"] afP:=Wt.good.kp λfd G=>by
 refine G.bT LM λ_ _ _ _ H _ Q _ _ h=>?_
 obtain⟨ow,b,pr,many,shows,way,rfl,⟨_,zU,aas,pz,wA,lr,qU⟩,q⟩:=h
 refine⟨_,az (aZ 5 LM.nd (yy (je Vv (pv 0) (eM (av aJ (av aJ ay))) (by with_unfolding_all rfl)) (yy (je Vv (pv 4) (eM (av aJ (av aJ (av aJ ay)))) (by with_unfolding_all rfl)) (r_ (Ng ng ng aF (pv 2) aF)))))
  (az (aZ 5 LM.nd (yy (pv 5) (r_ (rS (gB (rP (pv 1))) (Ng ng ng aF (pv 1) aF) (je hX (pv 4) aJ (a9 _))))))
  (aD (a8 (yy (pv 5) (r_ (FT (Oj (jA (pv 3))) (r_ (yy (je cQ (pv 4) aJ (a9 _)) (r_ (Ng ng ng aF (pv 3) (pv 2))))))))))),?_⟩
 have e1:=aff b
 have e2:=ahn qU
 have em:fL many=true:=by simp[fL];omega
 have es:lQ shows many way=true:=by
  cases shows with
  |none=>rfl
  |some k=>
   obtain⟨h1,h2,h3⟩:=lr k rfl
   simp[lQ,h1,h2,h3]
 have eg:dN (aH b) pr many shows way=fI pr way:=by unfold dN;rw[e1,e2,em,es];simp
 rw[eg]at q
 refine(rX rfl ⟨dM 2 rfl,λp1 h1=>⟨p1,rX rfl ⟨.inr (aM.of aB),rfl,rfl,true,dA V.bl e1,bL (rX rfl ⟨dM 3 rfl,λp2 h2=>⟨p2,rX rfl ⟨.inr (aM.of aB),rfl,rfl,true,dA V.bl e2,bL ?_⟩⟩⟩)⟩⟩⟩)
 have s2:=(aQ (o:=.tup [.str "buy",.str "sell"]) h1).trans (aQ (o:=.tup [.str "rest",.str "now",.str "whole"]) h2)
 generalize upd (upd H p1 (.tup [.str "buy",.str "sell"])) p2 (.tup [.str "rest",.str "now",.str "whole"])=H2 at*
 refine(rX rfl (r2 rfl rfl ⟨true,dA V.bl (bO pz),bL (r2 rfl rfl (rX rfl ⟨true,dA V.bl (bO wA),bL (rX rfl ?_)⟩))⟩))
 have fin:AX (L1 (aW 5) (T7 (T4 (aW 3)) (L1 (e7 mW (aW 4) (tC (.str "rest"))) (Oy (jW λi j=>.bl (decide (i<=j))) (jW λi j=>.bl (decide (i<=j))) (tC (.int 1)) (aW 3) (aW 2))))) {nx:=λ_ H'=>Q .aE H',rt:=Q} [some (.str (aH b)),some (oV pr),some (.int many),some (oV shows),some (.str way),some (.bl (fI pr way))] H2:=by
  refine(rX rfl (rX rfl ?_))
  cases hp:fI pr way with
  |false=>
   have:=q H2 s2
   rw[hp]at this
   exact bF this
  |true=>
   have:=q H2 s2
   rw[hp]at this
   refine bL (rX rfl ?_)
   cases shows with
   |none=>exact⟨true,rfl,bL this⟩
   |some k=>
    obtain⟨h1,h2,h3⟩:=lr k rfl
    subst h3
    exact⟨false,rfl,bF (rX rfl ⟨rfl,true,rfl,bL (rX rfl (r2 rfl rfl ⟨true,dA V.bl (bO h1),bL (rX rfl (r2 rfl rfl (by show Q (.bl (decide (k<=many))) H2;rw[bO h2];exact this)))⟩))⟩)⟩
 cases pr with
 |none=>
  have hw:=aas rfl
  refine⟨false,rfl,bF (rX rfl ⟨rfl,?_⟩)⟩
  rw[show fI none way= !decide (V.str way=V.str ("rest":Str)) by simp[fI,hw]]at fin
  exact fin
 |some p=>
  refine⟨true,rfl,bL (rX rfl (r2 rfl rfl (rX rfl ?_)))⟩
  by_cases h1:(1:Int)<=p
  ·rw[bO h1]
   refine bL ⟨_,_,rfl,rfl,?_⟩
   have:fI (some p) way=decide (p<=1000000000):=by show(decide (1<=p)&&decide (p<=1000000000))=_;rw[bO h1];rfl
   rw[this]at fin
   exact fin
  ·rw[cW h1]
   have:fI (some p) way=false:=by show(decide (1<=p)&&decide (p<=1000000000))=_;rw[cW h1];rfl
   rw[this]at fin
   exact bF fin
end
open PySem L2
structure Wp(W:Ws):Prop where
 z:0<=W.places
 lt:∀x∈W.es,0<=x.place/\x.place<W.places
 nd:(W.es.map (·.place)).Nodup
theorem Wp.gone{W:Ws}(h:Wp W)(k:Int):Wp (W.gone k):=⟨h.z,λx hx=>h.lt x (List.mem_filter.mp hx).1,(List.filter_sublist.map _).nodup h.nd⟩
theorem Wp.put{W:Ws}(h:Wp W)(e:Ent):Wp (W.put e):=by
 refine⟨by have:=h.z;show 0<=W.places+1;omega,λx hx=>?_,?_⟩
 ·have hz:=h.z
  rcases List.mem_append.mp hx with z|z
  ·have:=h.lt x (List.mem_filter.mp z).1
   show 0<=x.place/\x.place<W.places+1
   omega
  ·rw[List.mem_singleton.mp z]
   show 0<=W.places/\W.places<W.places+1
   omega
 ·show(((W.es.filter λx=>decide (x.num≠e.num))++ [({e with place:=W.places,shown:=cp e.shows e.left}:Ent)]).map (·.place)).Nodup
  rw[jh]
  refine yq ((List.filter_sublist.map _).nodup h.nd) λhm=>?_
  obtain⟨y,hy,z⟩:=u4.mp hm
  have:=h.lt y (List.mem_filter.mp hy).1
  have z:y.place=W.places:=z
  omega
theorem Wp.mod{W:Ws}(h:Wp W)(nd:(W.es.map (·.num)).Nodup){x:Ent}(hx:x∈W.es)(l s:Int):Wp {W with es:=bX W.es (x.as l s)}:=by
 have hm:∀y∈W.es,(if y.num=(x.as l s).num then x.as l s else y).place=y.place:=λy hy=>by
  by_cases q:y.num=(x.as l s).num
  ·rw[aA q]
   have:y=x:=qa nd hy hx q
   rw[this]
   rfl
  ·rw[ax q]
 refine⟨h.z,λy hy=>?_,?_⟩
 ·obtain⟨y0,h0,q⟩:=u4.mp hy
  have:=h.lt y0 h0
  rw[<-hm y0 h0,q]at this
  exact this
 ·show((bX W.es (x.as l s)).map (·.place)).Nodup
  have:(bX W.es (x.as l s)).map (·.place)=W.es.map (·.place):=by
   unfold bX
   rw[gG]
   exact qg hm
  rw[this]
  exact h.nd
theorem Wp.chg{W:Ws}(h:Wp W)(nd:(W.es.map (·.num)).Nodup){x:Ent}(hx:x∈W.es)(k:Int):Wp (W.chg x k):=by
 unfold Ws.chg
 split
 ·exact(h.mod nd hx _ _).put _
 ·exact h.mod nd hx _ _
theorem Wp.aP{W:Ws}(h:Wp W)(nd:(W.es.map (·.num)).Nodup){x:Ent}(hx:x∈W.es)(k:Int):Wp (W.aP x k):=by
 unfold Ws.aP
 split
 ·exact(h.mod nd hx _ _).gone _
 ·exact h.mod nd hx _ _
theorem Wp.meet{W:Ws}(h:Wp W)(nd:(W.es.map (·.num)).Nodup){x:Ent}(hx:x∈W.es)(ow l:Int):Wp (W.meet ow l x).2.1:=by
 have hm:Wp {W with es:=bX W.es {x with left:=x.left-mn l x.shown,shown:=x.shown-mn l x.shown},last:=some x.ar,bE:=W.bE+mn l x.shown}:=by
  have:=h.mod nd hx (x.left-mn l x.shown) (x.shown-mn l x.shown)
  exact⟨this.z,this.lt,this.nd⟩
 unfold Ws.meet
 split
 ·exact h.gone _
 ·show Wp (if _ then _ else if _ then _ else _)
  split
  ·exact hm.gone _
  ·split
   ·exact hm.put _
   ·exact hm
noncomputable def uR(H:Hp)(wa lo:ah)(ad:Int->ah)(W:Ws)(B:Bk)(dd:Dd)(Q:VK):Prop:=∀v f_ B' cj iE W' H',fY B dd f_ B'->qi H' v f_->B'.Ok->WB W' B'->Wp W'->bP H' wa cj iE W'->cM wa H lo ad W H' cj iE W'->Q v H'
theorem A3{W:Ws}(h:WB W B)(ok:B.Ok){x:Ent}(hx:x∈W.es):∃y,y∈B.at y.au/\y.er=x:=by
 obtain⟨y,hy,z⟩:=h.in.mp hx
 obtain⟨b,hb⟩:=dU.mp hy
 exact⟨y,by rw[ok.sd b y hb];exact hb,z⟩
theorem Ui{W:Ws}(h:WB W B){k:Int}(hk:∀x∈W.es,x.num≠k):∀b,∀e∈B.at b,e.num≠k:=λb e he=>hk e.er (h.in.mpr ⟨e,dU.mpr ⟨b,he⟩,rfl⟩)
theorem Oq{W:Ws}(h:WB W B)(ok:B.Ok)(hc:B.aG<=31):W.es.length<=38:=by
 have:=h.es.length_eq
 rw[bH]at this
 unfold Bk.all at this
 rw[gF]at this
 have:=ok.ct
 omega
section
variable {bW:ah} {a:c_} {n:fe} {u:fF} {e:gI} {r:iC}
theorem Tn:bc ["_law_world","_law_number","_law_one"] ["_law_world","_law_number"] (aX MP):=bw
inductive afv(vs:List V)(H:Hp)(Q:VK)(_:XK):Prop
 |mk (wa lo:Addr) (ad:Int->Addr) (W:Ws) (B:Bk) (k j:Int) (_:vs= [.ref wa,.int k]) (_:bP H wa lo ad W) (_:WB W B) (_:B.Ok) (_:Wp W) (_:uR H wa lo ad W B (.ca k j) Q)
theorem abw(Wt:eE K mg c r):Kp P w K mg base 2 r.cancel ["_law_world","_law_number"] afv:=Wt.cancel.kp λfd G=>by
 obtain⟨cK,G1,b1,k1⟩:=OK (P:=P) (w:=w) (base:=base) Wt
 obtain⟨dG,G2,b2,k2⟩:=Fj (P:=P) (w:=w) (base:=base) Wt
 refine G.bT Tn λ_ _ _ _ _ _ _ _ hr h=>?_
 obtain⟨wa,lo,ad,W,B,k,j,rfl,R,wb,ok,wp,q⟩:=h
 have hu:=fc hr
 refine⟨_,az (aZ 2 Tn.nd (bG G1 hr Wt.ph k1 b1 (av (pv 0) (av (pv 1) ay))))
  (az (bK (gB (jA (pv 2))) (aD (a8 aJ)) bZ)
  (az (cP (bG G2 hr Wt.vQ k2 b2 (av (pv 0) (av (pv 1) ay))))
  (aD (a8 (a_ hu (pv 2)))))),?_⟩
 refine(rX rfl (rX rfl ⟨wa,lo,ad,W,k,rfl,R,λx hx qV H1 s1=>?_,λdh H1 s1=>?_⟩))
 ·refine(rX rfl (rX rfl (bj rfl (rX rfl (rX rfl ⟨wa,lo,ad,W,k,rfl,R.same s1,λcj H2 R2 F2 Fn=>?_⟩)))))
  obtain⟨y,hy,mM⟩:=A3 wb ok hx
  obtain⟨i5,n8⟩:=R.o x hx
  rw[qV]at i5 n8
  have jT:y.num=k:=(BY mM).trans qV
  refine(rX rfl ⟨ad k,rX rfl ⟨cg (Fn _ _ (s1 _ _ i5) n8) rfl,?_⟩⟩)
  have hl:x.left=y.left:=by rw[<-mM];rfl
  refine q _ (.num y.left) (B.out y) cj ad (W.gone k) H2 (.ca hy jT) (by show V.int x.left=_;rw[hl]) (ok.out y) (by rw[<-jT];exact wb.gone ok hy) (wp.gone k) R2 ((cM.same s1).trans F2)
 ·exact(rX rfl (rX rfl (bY rfl (q _ (.str "none") B lo ad W H1 (.vv (Ui wb dh)) rfl ok wb wp (R.same s1) (cM.same s1)))))
theorem aeK:bc ["_law_world"] ["_law_world"] (aX NM):=bw
inductive aft(vs:List V)(H:Hp)(Q:VK)(_:XK):Prop
 |mk (wa lo:Addr) (ad:Int->Addr) (W:Ws) (B:Bk) (us:List V) (_:vs= [.ref wa]) (_:bP H wa lo ad W) (_:WB W B) (_:B.Ok) (_:Wp W) (_:uR H wa lo ad W B (.cl us) Q)
theorem abu(Wt:eE K mg c r):Kp P w K mg base 1 r.call ["_law_world"] aft:=Wt.call.kp λfd G=>by
 refine G.bT aeK λ_ _ _ _ H _ _ _ hr h=>?_
 obtain⟨wa,lo,ad,W,B,us,rfl,R,wb,ok,wp,q⟩:=h
 have hu:=fc hr
 refine⟨_,az (bK (e8 (a_ hu (pv 0))) (aD (a8 aJ)) bZ)
  (az (gQ hu (pv 0) aJ iA rfl) (aD (a8 g_))),?_⟩
 refine(rX rfl ⟨wa,rX rfl ⟨R.wg (uA W lo),rX rfl ?_⟩⟩)
 cases df:W.aY with
 |true=>exact bL (q _ (.str "now") B lo ad W H (.vC (by rw[<-wb.cl];exact df)) rfl ok wb wp R cM.refl)
 |false=>
  refine bF (rX rfl ⟨wa,rX rfl ⟨eS.k (k:=Sum.inr "calling") R.w (j4 6 (by decide)),?_⟩⟩)
  rw[Vq]
  exact q _ .aE {B with aY:=true} lo ad {W with aY:=true} _ (.cl (by rw[<-wb.cl];exact df)) rfl ⟨ok.so,ok.sd,ok.nd,ok.nx,ok.lt,ok.pl,ok.ct,ok.cm⟩ (wb.calls true) ⟨wp.z,wp.lt,wp.nd⟩ (R.lJ (W':={W with aY:=true}) rfl) (bP.AO (W:=W) (W':={W with aY:=true}) R.w rfl)
theorem LL:bc ["_law_world","_law_number","_law_many","_law_one","_law_more"] ["_law_world","_law_number","_law_many"] (aX MO):=bw
inductive afy(vs:List V)(H:Hp)(Q:VK)(_:XK):Prop
 |mk (wa lo:Addr) (ad:Int->Addr) (W:Ws) (B:Bk) (k j:Int) (_:vs= [.ref wa,.int k,.int j]) (_:bP H wa lo ad W) (_:WB W B) (_:B.Ok) (_:B.Pos) (_:B.aG<=30) (_:Wp W) (_:uR H wa lo ad W B (.ch k j) Q)
theorem abz(C:bR K mg c)(Wt:eE K mg c r):Kp P w K mg base 3 r.change ["_law_world","_law_number","_law_many"] afy:=Wt.change.kp λfd G=>by
 obtain⟨cK,G1,b1,k1⟩:=OK (P:=P) (w:=w) (base:=base) Wt
 obtain⟨dG,G2,b2,k2⟩:=Fm (P:=P) (w:=w) (base:=base) C Wt
 refine G.bT LL λ_ _ _ s _ _ _ _ hr h=>?_
 obtain⟨wa,lo,ad,W,B,k,j,rfl,R,wb,ok,ps,mr,wp,q⟩:=h
 have hu:=fc hr
 have b_:bB 1 _:=hr.mono (by decide)
 refine⟨_,az (aZ 3 LL.nd (bG G1 b_ Wt.ph k1 b1 (av (pv 0) (av (pv 1) ay))))
  (az (bK (gB (jA (pv 3))) (aD (a8 aJ)) bZ)
  (az (bK (jd (ad6 ng ng aF (pv 2) aF)) (aD (a8 aJ)) bZ)
  (az (aZ 4 LL.nd (je oP (pv 2) (a_ hu (pv 3)) (a9 _)))
  (az (gQ hu (pv 3) aJ (pv 2) rfl)
  (az (gQ hu (pv 3) aJ (c9 (pT rfl) (by rfl) C.min (by decide+kernel) (av (a_ hu (pv 3)) (av (pv 2) ay))) rfl)
  (az (bK (e8 (pv 4)) (aD (cP (bG G2 hr Wt.zh k2 b2 (av (pv 0) (av (pv 3) ay))))) bZ)
  (aD (a8 g_)))))))),?_⟩
 refine(rX rfl (rX rfl ⟨wa,lo,ad,W,k,rfl,R,λx hx qV H1 s1=>?_,λdh H1 s1=>?_⟩))
 rotate_left
 ·exact(rX rfl (rX rfl (bY rfl (q _ (.str "none") B lo ad W H1 (.sS (Ui wb dh)) rfl ok wb wp (R.same s1) (cM.same s1)))))
 obtain⟨y,hy,mM⟩:=A3 wb ok hx
 have jT:y.num=k:=(BY mM).trans qV
 refine(rX rfl (rX rfl (bj rfl (rX rfl (r2 rfl rfl (rX rfl (kC (λe3=>?_) (λe3=>?_))))))))
 rotate_left
 ·have Pr:¬(1:Int)<=j:=λz=>e3 (bO z)
  refine(rX rfl (bL (q _ (.str "bad") B lo ad W H1 (.qo hy jT (by simp[fL,Pr])) rfl ok wb wp (R.same s1) (cM.same s1))))
 have Pr:=eB e3
 refine⟨_,_,rfl,rfl,_,rfl,?_⟩
 by_cases e4:j<=10000
 rotate_left
 ·rw[cW e4]
  exact bL (q _ (.str "bad") B lo ad W H1 (.qo hy jT (by simp[fL,e4])) rfl ok wb wp (R.same s1) (cM.same s1))
 rw[bO e4]
 have em:fL j=true:=by simp[fL];omega
 have R1:=R.same s1
 obtain⟨i5,n8⟩:=R1.o x hx
 subst qV
 refine bF (rX rfl (rX rfl ⟨ad x.num,rX rfl ⟨cg i5 rfl,r2 rfl rfl ?_⟩⟩))
 refine(rX rfl (rX rfl ⟨ad x.num,rX rfl ⟨eS.k (k:=Sum.inr "left") i5 (j4 8 (by decide)),?_⟩⟩))
 rw[MZ]
 have wK:upd H1 (ad x.num) (.dK (oD {x with left:=j})) (ad x.num)=some (.dK (oD {x with left:=j})):=aB
 refine(rX rfl ⟨ad x.num,rX rfl ⟨cg wK rfl,rX rfl ⟨_,rX rfl (rX rfl ⟨ad x.num,rX rfl ⟨eS.k (k:=Sum.inr "shown") wK (j4 8 (by decide)),?_⟩⟩)⟩⟩⟩)
 rw[UK,fb]
 have fg:=λr=>(V6 ok ps hy em r).1
 have pQ:=λr=>wb.chg ok hy (ps.ps _ y hy).2.1 (fg r)
 have xP:=wp.chg (wb.nd ok) hx j
 rw[mM]at pQ
 obtain⟨R3,F3⟩:=R1.row (e':=x.as j (mn x.shown j)) hx rfl
 have OW:=(cM.same (W:=W) (lo:=lo) (ad:=ad) (wa:=wa) s1).trans F3
 show oj _ _ _ _ (upd H1 (ad x.num) (.dK (oD (x.as j (mn x.shown j)))))
 have zR:upd H1 (ad x.num) (.dK (oD (x.as j (mn x.shown j)))) (ad x.num)=some (.dK (oD (x.as j (mn x.shown j)))):=aB
 have qH:x.as j (mn x.shown j)∈bX W.es (x.as j (mn x.shown j)):=VT hx rfl
 generalize upd H1 (ad x.num) (.dK (oD (x.as j (mn x.shown j))))=H3 at*
 refine(rX rfl (rX rfl ?_))
 have hlx:y.left=x.left:=by rw[<-mM];rfl
 unfold Ws.chg at pQ xP
 by_cases hm:x.left<j
 ·rw[aA hm]at xP
  have pQ:∀r,WB (Ws.put {W with es:=bX W.es (x.as j (mn x.shown j))} (x.as j (mn x.shown j))) (B.chg y j r):=λr=>by have:=pQ r;rw[aA hm]at this;exact this
  refine bY (bO hm) (rX rfl (rX rfl ⟨wa,lo,ad x.num,ad,{W with es:=bX W.es (x.as j (mn x.shown j))},oD (x.as j (mn x.shown j)),x.as j (mn x.shown j),rfl,R3,zR,by show 8<=10;decide,n8,λz hz hzz=>?_,?_,rfl,λp=>rfl,λp=>rfl,λp s=>rfl,λcj H4 R4 k4 f4 l4=>?_⟩))
  ·exact R3.nj z hz _ qH hzz
  ·show(bX W.es (x.as j (mn x.shown j))).length<=38
   unfold bX
   rw[bH]
   exact Oq wb ok (by omega)
  ·have ida:gW ad (x.as j (mn x.shown j)).num (ad x.num)=ad:=O9 ad x.num
   rw[ida]at R4 f4
   refine q _ .aE (B.chg y j 0) cj ad _ H4 (.ch hy jT em) rfl (fg 0) (pQ 0) xP R4 (OW.trans ⟨λz o hz hn=>k4 z o hz hn λw=>hn (.inr (.inr ⟨_,qH,w⟩)),λz hz=>?_,l4⟩)
   rcases f4 z hz with w|w|w
   ·exact .inl w
   ·exact .inl (.inr (.inr ⟨_,qH,w⟩))
   ·exact .inr w
 ·rw[ax hm]at xP
  have pQ:∀r,WB {W with es:=bX W.es (x.as j (mn x.shown j))} (B.chg y j r):=λr=>by have:=pQ r;rw[ax hm]at this;exact this
  exact bj (cW hm) (q _ .aE (B.chg y j 0) lo ad _ H3 (.ch hy jT em) rfl (fg 0) (pQ 0) xP R3 OW)
end
open PySem L2
theorem zjZ(ok:B.Ok)(hl:l≠0)(h:eu (B.at (!b)) l b pr= .aE):∀y∈B.at (!b),cy y.ar (aH b) pr=false:=λy hy=>by
 cases e1:B.at (!b)with
 |nil=>
  rw[e1]at hy
  simp at hy
 |cons z t=>
  have bh:=zk7 ok e1 hy
  rw[e1]at h
  have h:(if l=0 then V.aE else if cy z.ar (aH b) pr=true then .ref z.ea else .aE)= .aE:=h
  rw[ax hl]at h
  by_cases hs:cy z.ar (aH b) pr=true
  ·rw[aA hs]at h
   cases h
  ·cases pr with
   |none=>exact absurd rfl hs
   |some p=>
    cases b with
    |true=>
     have hs:¬(if aH true="buy" then decide (z.ar<=p)else decide (p<=z.ar))=true:=hs
     rw[aA (show aH true="buy" from rfl)]at hs
     have bh:z.ar<=y.ar:=bh
     have:¬z.ar<=p:=λw=>hs (bO w)
     show(if aH true="buy" then decide (y.ar<=p)else decide (p<=y.ar))=false
     rw[aA (show aH true="buy" from rfl)]
     exact cW (by omega)
    |false=>
     have hs:¬(if aH false="buy" then decide (z.ar<=p)else decide (p<=z.ar))=true:=hs
     rw[ax (by decide+kernel)]at hs
     have bh:y.ar<=z.ar:=bh
     have:¬p<=z.ar:=λw=>hs (bO w)
     show(if aH false="buy" then decide (y.ar<=p)else decide (p<=y.ar))=false
     rw[ax (by decide+kernel)]
     exact cW (by omega)
open PySem L2
noncomputable def fV(B:Bk)(b:ai)(pr:ae Int):aa Ent:=(B.at (!b)).filter λe=>cy e.ar (aH b) pr
theorem ziH(ok:B.Ok)(h:fV B b pr= []):eu (B.at (!b)) l b pr= .aE:=by
 cases e:B.at (!b)with
 |nil=>rfl
 |cons x t=>
  have:cy x.ar (aH b) pr=false:=by
   have:=List.filter_eq_nil_iff.mp h x (by rw[e];exact bA)
   simpa using this
  show(if l=0 then V.aE else if cy x.ar (aH b) pr=true then .ref x.ea else .aE)= .aE
  rw[this]
  simp
theorem ziI(ok:B.Ok){x:Ent}{t:aa Ent}(h:fV B b pr=x::t):∃r,B.at (!b)=x::r/\cy x.ar (aH b) pr=true:=by
 have hx:x∈fV B b pr:=by rw[h];exact bA
 obtain⟨h1,h2⟩:=List.mem_filter.mp hx
 have h2:cy x.ar (aH b) pr=true:=h2
 cases e:B.at (!b)with
 |nil=>
  rw[e]at h1
  simp at h1
 |cons y r=>
  by_cases hy:cy y.ar (aH b) pr=true
  ·unfold fV at h
   rw[e,yD (p:=λe:Ent=>cy e.ar (aH b) pr) hy]at h
   have:=(yB h).1
   subst this
   exact⟨r,rfl,hy⟩
  ·have hn:eu (B.at (!b)) 1 b pr= .aE:=by
    rw[e]
    show(if(1:Int)=0 then V.aE else if cy y.ar (aH b) pr=true then .ref y.ea else .aE)= .aE
    rw[ax hy]
    simp
   have:=zjZ ok (by decide) hn x h1
   rw[h2]at this
   cases this
theorem Wi(ow:Int)(b:ai)(pr:ae Int):∀xs:aa Ent,eZ (((xs.filter λe=>cy e.ar (aH b) pr).filter λe=>decide (e.owner≠ow)).map (·.left))=gM ow b pr xs
 | []=>rfl
 |x::t=>by
  have ih:=Wi ow b pr t
  show _=(if cy x.ar (aH b) pr=true/\x.owner≠ow then x.left else 0)+gM ow b pr t
  by_cases h1:cy x.ar (aH b) pr=true
  ·rw[yD (p:=λe:Ent=>cy e.ar (aH b) pr) h1]
   by_cases h2:x.owner≠ow
   ·rw[yD (p:=λe:Ent=>decide (e.owner≠ow)) (bO h2),aA ⟨h1,h2⟩,<-ih]
    rfl
   ·rw[B6 (p:=λe:Ent=>decide (e.owner≠ow)) (by simpa using h2),ax λz=>h2 z.2,ih]
    omega
  ·rw[B6 (p:=λe:Ent=>cy e.ar (aH b) pr) h1,ax λz=>h1 z.1,ih]
   omega
noncomputable abbrev AY:TT:=tB (uU LW [] E0 (du (aW 1) (du (aW 2) (du (ej (aW 0) (tC (.str "price"))) g7))))
noncomputable abbrev Ow(K:W.Frag):TE:=p0 1 [("_law_side_here",2),("_law_price_here",3)] (Fd K (uU TM [] E0 (du (aW 0) (du (aW 8) g7)))) (cT 0) AY (aW 0)
theorem adW(es:aa Ent)(f:Ent->V)(hf:∀e,f e.er=f e)(P:Ent->ai)(hP:∀e,P e.er=P e):(((es.map Ent.er).filter P).map f)=(es.filter P).map f:=by
 rw[B7]
 have:P∘Ent.er=P:=by funext x;exact hP x
 rw[this,gG]
 exact qg λx _=>hf x
theorem Vi{K:W.Frag}{W:Ws}(h0:σ[0]?=some (some (.ref wa)))(h2:σ[2]?=some (some (.str (aH b))))(h3:σ[3]?=some (some (oV pr)))(h8:σ[8]?=some (some (.str (aH (!b)))))(R:bP H wa lo ad W)(wb:WB W B)(ok:B.Ok)(wp:Wp W){Q:VK}
  (q:∀th H',aL H H'->H th=none->H' th=some (.lst ((fV B b pr).map λe=>.ref (ad e.num)))->Q (.ref th) H'):Ow K σ H Q:=by
 refine⟨[.str (aH b),oV pr],rfl,Ph h2 h3,_,h0,_,h8,wa,lo,ad,W,!b,rfl,R,λx hx=>(wp.lt x hx).1,wp.nd,λl ss H1 s1 mE hp hs hl=>?_⟩
 obtain rfl:=wb.side ok hp hs
 refine⟨l,rfl,⟨_,aK.of hl⟩,?_⟩
 have ln:((B.at (!b)).map Ent.er).length<=1000:=by
  rw[bH]
  have z1:=m_ B (!b)
  have z2:=ok.ct
  have z3:=ok.cm
  omega
 have R1:=R.same s1
 have wY:∀{j:Nat} {y:Ent},((B.at (!b)).map Ent.er)[j]?=some y->y∈W.es:=λ{j y} hy=>by
  obtain⟨x,hx,rfl⟩:=iS hy
  exact wb.in.mpr ⟨x,dU.mpr ⟨_,d6 hx⟩,rfl⟩
 refine oB (K:=K) (σ0:=List.replicate 1 none++ [some (.str (aH b)),some (oV pr)]) (g:=cT 0) (tc:=AY) (te:=aW 0) (xs:=((B.at (!b)).map Ent.er).map λe=>.ref (ad e.num)) (dX ((B.at (!b)).map Ent.er) (λe=>cy e.ar (aH b) pr) λe=>.ref (ad e.num)) (aK.of hl) (by rw[bH,a7];omega) (λj x hx Rt Rf ht hf=>?_) λp hp=>?_
 ·obtain⟨y,hy,rfl⟩:=iS hx
  have jv:dX ((B.at (!b)).map Ent.er) (λe=>cy e.ar (aH b) pr) (λe=>.ref (ad e.num)) j (.ref (ad y.num))=if cy y.ar (aH b) pr=true then some (.ref (ad y.num))else none:=by unfold dX;rw[hy]
  refine(rX rfl (rX rfl (rX rfl ⟨ad y.num,rX rfl ⟨R1.og (wY hy) rfl,b,pr,y.ar,rfl,rX rfl ?_⟩⟩)))
  cases e:cy y.ar (aH b) pr with
  |true=>exact bL ⟨_,rfl,ht _ (by rw[jv,e];rfl)⟩
  |false=>exact bF (hf (by rw[jv,e];rfl))
 ·rw[oA,adW (B.at (!b)) (λe=>V.ref (ad e.num)) (λ_=>rfl) (λe=>cy e.ar (aH b) pr) (λ_=>rfl)]
  exact q p _ (s1.trans (aQ hp)) (s1.free hp) aB
open PySem L2
theorem Ol{W:Ws}(R:bP H wa lo ad W){x:ah}(h:cf wa lo ad W x):∃o,H x=some o/\(kd o=5\/kd o=6):=by
 rcases h with rfl|rfl| ⟨e,he,rfl⟩
 ·exact⟨_,R.w,.inr rfl⟩
 ·exact⟨_,R.l,.inl rfl⟩
 ·exact⟨_,(R.o e he).1,.inr rfl⟩
theorem yo{W:Ws}(R:bP H wa lo ad W){x:ah}{xs:aa V}(h:H x=some (.tup xs)):¬cf wa lo ad W x:=λz=>by
 obtain⟨o,h1,h2⟩:=Ol R z
 rw[h]at h1
 obtain rfl:=cq h1
 have h2:(7:Nat)=5\/(7:Nat)=6:=h2
 omega
theorem Nh{W:Ws}(R:bP H wa lo ad W){x:ah}(h:H x=none):¬cf wa lo ad W x:=λz=>by
 obtain⟨o,h1,_⟩:=Ol R z
 rw[h]at h1
 cases h1
theorem bP.other{W:Ws}(R:bP H wa lo ad W){x:ah}{o:HO}(hx:¬cf wa lo ad W x):bP (upd H x o) wa lo ad W:=R.keep λy u hy ho=>(aw λz=>hx (by rw[<-z];exact ho)).trans hy
theorem zj9{B0:Bk}{l0:Int}{x:Ent}{t:aa Ent}(met:eC ow b pr B0 l0 aS B1 l1)(wb:WB W1 B1)(ok:B1.Ok)(ps:B1.Pos)(ht:fV B1 b pr=x::t)(h0:0<l1):
  ∃B2,eC ow b pr B0 l0 (aS++ [(W1.meet ow l1 x.er).1]) B2 (W1.meet ow l1 x.er).2.2/\WB (W1.meet ow l1 x.er).2.1 B2/\B2.Ok/\B2.Pos/\0<=(W1.meet ow l1 x.er).2.2/\(W1.meet ow l1 x.er).2.2<=l1/\(W1.meet ow l1 x.er).2.2.toNat+(B2.at (!b)).length<l1.toNat+(B1.at (!b)).length:=by
 obtain⟨r,hx,hs⟩:=ziI ok ht
 have gO:x.au= !b:=ok.sd (!b) x (by rw[hx];exact bA)
 have fS:=uQ ok hx
 have dc:l1≠0:=by omega
 by_cases how:x.owner=ow
 ·obtain⟨q,iP⟩:=wb.acJ (l:=l1) ok fS how
  rw[q]at iP ⊢
  refine⟨B1.out x,.out met hx dc hs how,iP,ok.out x,ps.out x,by show 0<=l1;omega,fM _,?_⟩
  rw[Om hx gO,hx,d5]
  show l1.toNat+r.length<_
  omega
 ·obtain⟨q1,q2,iP⟩:=wb.FC (l:=l1) ok fS how 0
  rw[q1,q2]
  have pe:=ps.ps _ x fS
  have wD:1<=mn l1 x.shown/\mn l1 x.shown<=x.shown/\mn l1 x.shown<=l1:=by
   unfold mn
   split<;>omega
  refine⟨_,.ip 0 met hx dc hs how,iP,BN (ok.less fS _ _) _ _,N9 (ps.less ok fS wD.1 wD.2.1 _) _ _,by omega,by omega,?_⟩
  have ha:(((B1.less x (mn l1 x.shown) 0).fA x.ar (mn l1 x.shown)).at (!b)).length<=(B1.at (!b)).length:=Nl ok hx gO _ _
  omega
noncomputable def uN:aa (Key×V):=[(Sum.inr "buy",.str "sell"),(Sum.inr "sell",.str "buy")]
theorem YA:qb [] uN=uN:=rfl
theorem Yz(b:ai):bQ uN (Sum.inr (aH b))=some (.str (aH (!b))):=by cases b<;>rfl
theorem agZ{K:W.Frag}{W:Ws}{g:TG}{D:Ends}{T:TS}(h0:σ[0]?=some (some (.ref wa)))(h2:σ[2]?=some (some (.str (aH b))))(h3:σ[3]?=some (some (oV pr)))(h8:σ[8]?=some (some (.str (aH (!b)))))(R:bP H wa lo ad W)(wb:WB W B)(ok:B.Ok)(wp:Wp W)
  (q:∀th H',aL H H'->H th=none->H' th=some (.lst ((fV B b pr).map λe=>.ref (ad e.num)))->g (.ref th) σ H' (T D)):oj (rC (Ow K) g) T D σ H:=Vi (K:=K) (Q:=λx H1=>g x σ H1 (T D)) h0 h2 h3 h8 R wb ok wp q
theorem zjj{K:W.Frag}{W:Ws}{g:TG}{D:Ends}(h0:σ[0]?=some (some (.ref wa)))(h2:σ[2]?=some (some (.str (aH b))))(h3:σ[3]?=some (some (oV pr)))(h8:σ[8]?=some (some (.str (aH (!b)))))(R:bP H wa lo ad W)(wb:WB W B)(ok:B.Ok)(wp:Wp W)
  (q:∀th H',aL H H'->H th=none->H' th=some (.lst ((fV B b pr).map λe=>.ref (ad e.num)))->g (.ref th) σ H' D.nx):rC (Ow K) g D σ H:=Vi (K:=K) (Q:=λx H1=>g x σ H1 D.nx) h0 h2 h3 h8 R wb ok wp q
theorem Wf{en:ai}{Q:ai->Hp->Prop}(h6:σ[6]?=some (some (.str way)))(YQ:σ[11]?=some (some (.bl en)))(h:Q (!decide (way="whole")||en) H):L5 (hV (e7 pM (aW 6) (tC (.str "whole")))) (tB (aW 11)) σ H Q:=by
 refine⟨_,h6,rfl,_,rfl,?_⟩
 by_cases hw:way="whole"
 ·refine bj (by rw[hw];simp) ⟨_,YQ,_,rfl,?_⟩
  rw[hw]at h
  exact h
 ·refine bY (by simp[hw]) ?_
  rw[cW hw]at h
  exact h
noncomputable abbrev S0:TT:=hV (e7 pM (ej (aW 0) (tC (.str "owner"))) (aW 1))
section
variable {bW:ah} {a:c_} {n:fe} {u:fF} {e:gI} {r:iC}
theorem si:bc ["_law_world","_law_owner","_law_side_here","_law_price_here","_law_many","_law_shows","_law_way","_law_new_here","_law_other","_law_there","_law_told","_law_enough"] ["_law_world","_law_owner","_law_side_here","_law_price_here","_law_many","_law_shows","_law_way"] (aX MG):=bw
inductive af6(vs:List V)(H:Hp)(Q:VK)(_:XK):Prop
 |mk (wa lo:Addr) (ad:Int->Addr) (W:Ws) (B:Bk) (ow:Int) (b:Bool) (pr:Option Int) (many:Int) (shows:Option Int) (way:Str) (_:vs= [.ref wa,.int ow,.str (aH b),oV pr,.int many,oV shows,.str way]) (_:bP H wa lo ad W) (_:WB W B) (_:B.Ok) (_:B.Pos) (_:B.aG<=30) (_:Wp W) (_:(Dd.pl ow b pr many shows way).Ok) (_:uR H wa lo ad W B (.pl ow b pr many shows way) Q)
inductive CA(H:Hp)(wa lo na tl:Addr)(ad:Int->Addr)(W:Ws)(B:Bk)(ow:Int)(b:Bool)(pr:Option Int)(many:Int)(shows:Option Int)(way:Str)(st:Option V->St)(σ:St)(H':Hp):Prop
 |mk (aS:List Ev) (B2:Bk) (l2:Int) (W2:Ws) (jU:Addr) (ts:List V) (z9:Option V) (_:σ=st z9) (_:oX B ow b pr many way aS B2 l2) (_:0<=l2) (_:l2<=many) (_:WB W2 B2) (_:Wp W2) (_:bP H' wa jU ad W2) (_:H' na=some (.dK (cD B.aG ow b pr l2 shows))) (_:¬cf wa jU ad W2 na) (_:H' tl=some (.lst ts)) (_:oN H' ts aS) (_:aS.length<=11000) (_:cM wa H lo ad W H' jU ad W2)
inductive Xa(H:Hp)(wa lo na tl:Addr)(ad:Int->Addr)(W:Ws)(B:Bk)(ow:Int)(b:Bool)(pr:Option Int)(many:Int)(shows:Option Int)(st:Option V->St)(μ:Nat)(σ:St)(H':Hp):Prop
 |mk (aS:List Ev) (B1:Bk) (l1:Int) (W1:Ws) (lo1 th:Addr) (ts:List V) (_:σ=st (some (.ref th))) (_:eC ow b pr B.cX many aS B1 l1) (_:WB W1 B1) (_:Wp W1) (_:B1.Ok) (_:B1.Pos) (_:0<=l1) (_:l1<=many) (_:bP H' wa lo1 ad W1) (_:H' na=some (.dK (cD B.aG ow b pr l1 shows))) (_:¬cf wa lo1 ad W1 na) (_:H' tl=some (.lst ts)) (_:¬cf wa lo1 ad W1 tl) (_:oN H' ts aS) (_:H' th=some (.lst ((fV B1 b pr).map λe=>.ref (ad e.num)))) (_:cM wa H lo ad W H' lo1 ad W1) (_:μ=l1.toNat+(B1.at (!b)).length) (_:aS.length+μ<=many.toNat+(B.at (!b)).length)
theorem abV(C:bR K mg c)(Z:jL mg)(aaF:mg "sum"=none)(Wt:eE K mg c r):Kp P w K mg base 4 r.place ["_law_world","_law_owner","_law_side_here","_law_price_here","_law_many","_law_shows","_law_way"] af6:=Wt.place.kp λfd G=>by
 obtain⟨cK,G1,b1,k1⟩:=abG (P:=P) (w:=w) (base:=base) Wt
 obtain⟨dG,G2,b2,k2⟩:=OJ (P:=P) (w:=w) (base:=base) Z Wt
 obtain⟨gY,G3,b3,k3⟩:=WO (P:=P) (w:=w) (base:=base) Wt
 obtain⟨kX,G4,b4,k4⟩:=abP (P:=P) (w:=w) (base:=base) C Wt
 obtain⟨mh,G5,b5,k5⟩:=Fm (P:=P) (w:=w) (base:=base) C Wt
 refine G.bT si λ_ _ _ _ H _ _ _ hr h=>?_
 obtain⟨wa,lo,ad,W,B,ow,b,pr,many,shows,way,rfl,R,wb,ok,ps,mr,wp,dY,q⟩:=h
 have hu:=fc hr
 have b_:bB 1 _:=hr.mono (by decide)
 have di:bB 2 _:=hr.mono (by decide)
 refine⟨_,az (bK (jd (e8 (bG G1 b_ Wt.P6 k1 b1 (av (pv 2) (av (pv 3) (av (pv 4) (av (pv 5) (av (pv 6) ay)))))))) (aD (a8 aJ)) bZ)
  (az (m9 (bK (PW.pt (iR (e8 (a_ hu (pv 0))) (jD (bC hX (pv 6) aJ (a9 _))))) (aD (a8 aJ)) bZ))
  (az (aZ 7 si.nd (BB (iQ aJ (a_ hu (pv 0)) (iQ aJ (pv 1) (iQ aJ (pv 2) (iQ aJ (pv 3) (iQ aJ (pv 4) (iQ aJ (pv 5) BJ)))))) rfl rfl (by simp) (by decide)))
  (az (gQ hu (pv 0) aJ (ba gR (a_ hu (pv 0)) aF) rfl)
  (az (aZ 8 si.nd (uJ hu (BB (iQ aJ aJ (iQ aJ aJ BJ)) rfl rfl (by simp) (by decide)) (pv 2) (λ_ _=>rfl)))
  (az (uI (i:=9) (own:=["_law_one"]) (caps:=[("_law_side_here",2),("_law_price_here",3)]) (g:=cT 0) (tc:=AY) (te:=aW 0) si.nd rfl (Or.inl rfl) rfl (by decide+kernel) (C9 ⟨rfl,rfl,rfl⟩ ⟨rfl,rfl,rfl⟩) (by decide+kernel) rfl (by decide+kernel)
   (gz (bG G2 hr Wt.sZ k2 b2 (av (pv 0) (av (pv 8) ay)))) (λ_ _ _ _ _=>eO (i:=0) (show(["_law_one","_law_side_here","_law_price_here"]:aa Str).Nodup by decide+kernel) rfl (Or.inl (bV rfl)) (Or.inr (bV rfl)))
   (λ_ _ _ _ _=>lU (e8 (bG G3 b_ Wt.pj k3 b3 (av (pv 1 rfl (.inr (iu rfl))) (av (pv 2 rfl (.inr (iu rfl))) (av (a_ hu (pv 0 rfl (.inl (bV rfl)))) ay))))))
   (λ_ _ _ _ _=>pv 0 rfl (.inl (bV rfl))))
  (az (aZ 10 si.nd (fW ay))
  (az (aZ 11 si.nd (je Av (c9 (MV rfl) (by rfl) aaF (by decide+kernel) (av (ou (own:=["_law_one"]) (caps:=[("_law_owner",1)]) (g:=cT 0) (tc:=S0) (te:=ej (aW 0) (tC (.str "left"))) rfl (by decide+kernel) (oM ⟨rfl,rfl,rfl⟩) (by decide+kernel) rfl (by decide+kernel)
   (gz (pv 9)) (λ_ _ _ _ _=>eO (i:=0) (show(["_law_one","_law_owner"]:aa Str).Nodup by decide+kernel) rfl (Or.inl (bV rfl)) (Or.inr (bV rfl)))
   (λ_ _ _ _ _=>lU (bC hX (a_ hu (pv 0 rfl (.inl (bV rfl)))) (pv 1 rfl (.inr (iu rfl))) (a9 _)))
   (λ_ _ _ _ _=>a_ hu (pv 0 rfl (.inl (bV rfl))))) ay)) (pv 4) (a9 _)))
  (az (m9 (yc jG (PW.pt (iR (jd (e8 (a_ hu (pv 0)))) (iR (bC oP (a_ hu (pv 7)) aF (a9 _)) (iR (Bp (pv 9) (λ_=>rfl)) (jD (PW.pt (jE (bC hX (pv 6) aJ (a9 _)) (jz (e8 (pv 11))))))))))
   (az (cP (lX l8 sF sG rJ (pv 10) (av (bG G4 hr Wt.vR k4 b4 (av (pv 0) (av (pv 7) (av (pv 9) ay)))) ay)))
   (aD (uI (i:=9) (own:=["_law_one"]) (caps:=[("_law_side_here",2),("_law_price_here",3)]) (g:=cT 0) (tc:=AY) (te:=aW 0) si.nd rfl (Or.inl rfl) rfl (by decide+kernel) (C9 ⟨rfl,rfl,rfl⟩ ⟨rfl,rfl,rfl⟩) (by decide+kernel) rfl (by decide+kernel)
    (gz (bG G2 hr Wt.sZ k2 b2 (av (pv 0) (av (pv 8) ay)))) (λ_ _ _ _ _=>eO (i:=0) (show(["_law_one","_law_side_here","_law_price_here"]:aa Str).Nodup by decide+kernel) rfl (Or.inl (bV rfl)) (Or.inr (bV rfl)))
    (λ_ _ _ _ _=>lU (e8 (bG G3 b_ Wt.pj k3 b3 (av (pv 1 rfl (.inr (iu rfl))) (av (pv 2 rfl (.inr (iu rfl))) (av (a_ hu (pv 0 rfl (.inl (bV rfl)))) ay))))))
    (λ_ _ _ _ _=>pv 0 rfl (.inl (bV rfl))))))))
  (az (m9 (bK (PW.pt (iR (bC cQ (pv 6) aJ (a9 _)) (jD (bC oP (a_ hu (pv 7)) aF (a9 _))))) (aD (cP (bG G5 di Wt.zh k5 b5 (av (pv 0) (av (pv 7) ay))))) bZ))
  (aD (a8 (eM (av (a_ hu (pv 7)) (av (pv 10) ay)))))))))))))),?_⟩
 have aj9:1<=many/\many<=10000:=⟨dY.2.2.2.1,dY.2.2.2.2.1⟩
 refine(rX rfl (rX rfl (rX rfl (rX rfl (rX rfl ⟨ow,b,pr,many,shows,way,rfl,dY,λH1 s1=>(rX rfl ?_)⟩)))))
 have R1:=R.same s1
 have F1:cM wa H lo ad W H1 lo ad W:=cM.same s1
 cases hg:dN (aH b) pr many shows way with
 |false=>exact bL (q _ (.str "bad") B lo ad W H1 (.bad hg) rfl ok wb wp R1 F1)
 |true=>
 refine bF ⟨λσ H'=>σ= [some (.ref wa),some (.int ow),some (.str (aH b)),some (oV pr),some (.int many),some (oV shows),some (.str way),none,none,none,none,none]/\H'=H1/\(B.aY=true->way="rest"),?_,?_⟩
 ·refine(rX rfl ⟨wa,rX rfl ⟨R1.wg (uA W lo),rX rfl ?_⟩⟩)
  cases df:W.aY with
  |false=>exact bF (bF ⟨rfl,rfl,λz=>by rw[<-wb.cl,df]at z;cases z⟩)
  |true=>
   refine bL (rX rfl ⟨rfl,rX rfl ?_⟩)
   by_cases hw:way="rest"
   ·exact bj (by rw[hw];simp) ⟨rfl,rfl,λ_=>hw⟩
   ·exact bY (by simp[hw]) (q _ (.str "now") B lo ad W H1 (.now hg (by rw[<-wb.cl];exact df) hw) rfl ok wb wp R1 F1)
 rintro σ H' ⟨rfl,rfl,qU⟩
 refine λna zK=>(rX rfl ⟨wa,rX rfl ⟨(R1.same (aQ zK)).wg (Uh W lo),rX rfl (rX rfl (rX rfl (rX rfl (rX rfl ⟨aB,cD W.aG ow b pr many shows,rfl,by show 6<=15;decide,?_⟩))))⟩⟩)
 rw[fb,show qb [] (cD W.aG ow b pr many shows)=cD W.aG ow b pr many shows from rfl]
 have s2:=aQ (o:=.dK (cD W.aG ow b pr many shows)) zK
 have zL:upd H' na (.dK (cD W.aG ow b pr many shows)) na=some (.dK (cD W.aG ow b pr many shows)):=aB
 have kD:=Nh R1 zK
 have xh:na≠wa:=λz=>kD (.inl z)
 have DC:H na=none:=s1.free zK
 have R2:=R1.same s2
 have F2:cM wa H lo ad W (upd H' na (.dK (cD W.aG ow b pr many shows))) lo ad W:=F1.trans (cM.same s2)
 generalize upd H' na (.dK (cD W.aG ow b pr many shows))=H2 at*
 refine(rX rfl ⟨wa,rX rfl ⟨R2.wg (Uh _ _),r2 rfl rfl (rX rfl ⟨wa,rX rfl ⟨eS.k (k:=Sum.inr "many") R2.w (j4 6 (by decide)),?_⟩⟩)⟩⟩)
 rw[zjF]
 have R3:=R2.lJ (W':={W with aG:=W.aG+1}) rfl
 have F3:=F2.trans (bP.AO (W:=W) (lo:=lo) (ad:=ad) (W':={W with aG:=W.aG+1}) (kv:=({W with aG:=W.aG+1}:Ws).dat lo) R2.w rfl)
 have tL:upd H2 wa (.dK ({W with aG:=W.aG+1}.dat lo)) na=some (.dK (cD W.aG ow b pr many shows)):=(aw xh).trans zL
 have A2:WB {W with aG:=W.aG+1} B.cX:=wb.cX
 have Mo:Wp {W with aG:=W.aG+1}:=⟨wp.z,wp.lt,wp.nd⟩
 have xu:=O_ ok (by omega)
 have XX:∀y,upd H2 wa (.dK ({W with aG:=W.aG+1}.dat lo)) y=none->H y=none:=λy hy=>by
  by_cases e:y=wa
  ·rw[e,aB]at hy
   cases hy
  ·rw[aw e]at hy
   exact s1.free (s2.free hy)
 have SM:¬cf wa lo ad {W with aG:=W.aG+1} na:=kD
 have XH:({W with aG:=W.aG+1}:Ws).aY=B.aY:=wb.cl
 have v9:W.aG=B.aG:=wb.ca
 generalize({W with aG:=W.aG+1}:Ws)=W3 at*
 generalize upd H2 wa (.dK (W3.dat lo))=H3 at*
 rw[v9]at tL
 clear zL R2 F2 s2
 refine λp3 jS=>⟨aB,uN,rfl,by show 2<=15;decide,_,rfl,p3,.str (aH (!b)),rfl,cg aB (Yz b),?_⟩
 rw[fb,YA]
 have s4:=aQ (o:=.dK uN) jS
 generalize upd H3 p3 (.dK uN)=H4 at*
 refine agZ (σ:=[some (.ref wa),some (.int ow),some (.str (aH b)),some (oV pr),some (.int many),some (oV shows),some (.str way),some (.ref na),some (.str (aH (!b))),none,none,none]) (b:=b) (pr:=pr) rfl rfl rfl rfl (R3.same s4) A2 xu Mo λth H5 s5 aaM lu=>?_
 refine⟨dM 0 rfl,λtl E3=>?_⟩
 have kY:H tl=none:=XX _ ((s4.trans s5).free E3)
 have s6:=aQ (o:=.lst []) E3
 have qS:upd H5 tl (.lst []) tl=some (.lst []):=aB
 have zX:=s6 _ _ lu
 have R6:=R3.same (s4.trans (s5.trans s6))
 have F6:=F3.trans (cM.same (s4.trans (s5.trans s6)))
 have zN:=(s4.trans (s5.trans s6)) _ _ tL
 have t_:¬cf wa lo ad W3 tl:=Nh (R3.same (s4.trans s5)) E3
 generalize upd H5 tl (.lst [])=H6 at*
 have Fo:(B.at (!b)).length<=500:=by
  have z1:=m_ B (!b)
  have z2:=ok.ct
  have z3:=ok.cm
  omega
 have lnT:(fV B.cX b pr).length<=500:=eA (sy _ _) Fo
 have wW:∀{j:Nat} {y:Ent},(fV B.cX b pr)[j]?=some y->y.er∈W3.es:=λ{j y} hy=>A2.in.mpr ⟨y,dU.mpr ⟨_,(List.mem_filter.mp (d6 hy)).1⟩,rfl⟩
 refine⟨[.int ow],rfl,oK rfl,_,rfl,th,rfl,⟨_,aK.of zX⟩,?_⟩
 refine oB (K:=K) (σ0:=List.replicate 1 none++ [some (.int ow)]) (g:=cT 0) (tc:=S0) (te:=ej (aW 0) (tC (.str "left"))) (xs:=(fV B.cX b pr).map λe=>.ref (ad e.num)) (dX (fV B.cX b pr) (λe=>decide (e.owner≠ow)) λe=>.int e.left) (aK.of zX) (by rw[bH,a7];omega) (λj x hx Rt Rf ht hf=>?_) λp7 nU=>?_
 ·obtain⟨y,hy,rfl⟩:=iS hx
  have jv:dX (fV B.cX b pr) (λe=>decide (e.owner≠ow)) (λe=>V.int e.left) j (.ref (ad y.num))=if decide (y.owner≠ow)=true then some (.int y.left)else none:=by unfold dX;rw[hy]
  have og:=R6.o y.er (wW hy)
  refine(rX rfl ⟨ad y.num,rX rfl ⟨cg og.1 rfl,rX rfl ⟨rfl,rX rfl ?_⟩⟩⟩)
  by_cases e:y.owner=ow
  ·exact bj (by show(!decide (V.int y.owner=V.int ow))=false;rw[e];simp) (hf (by rw[jv];simp[e]))
  ·exact bY (by show(!decide (V.int y.owner=V.int ow))=true;simp[e]) (rX rfl ⟨ad y.num,rX rfl ⟨cg og.1 rfl,ht _ (by rw[jv];simp[e];rfl)⟩⟩)
 rw[oA]
 have hints:((fV B.cX b pr).filter λe=>decide (e.owner≠ow)).map (λe=>V.int e.left)=(((fV B.cX b pr).filter λe=>decide (e.owner≠ow)).map (·.left)).map V.int:=by rw[gG];rfl
 rw[hints]
 have s7:=aQ (o:=.lst ((((fV B.cX b pr).filter λe=>decide (e.owner≠ow)).map (·.left)).map V.int)) nU
 refine⟨p7,_,rfl,aK.of aB,_,rfl,_,_,rfl,rfl,?_⟩
 have aaG:eZ (((fV B.cX b pr).filter λe=>decide (e.owner≠ow)).map (·.left))=gM ow b pr (B.at (!b)):=Wi ow b pr (B.at (!b))
 rw[aaG]
 have wO:=s7 _ _ zX
 have zZ:=s7 _ _ qS
 have ED:=s7 _ _ zN
 have R7:=R6.same s7
 have F7:=F6.trans (cM.same s7)
 generalize upd H6 p7 _=H7 at*
 clear zX qS zN R6 F6 R3 F3 tL lu s7 s6 s5 s4
 obtain⟨st,gn⟩:∃st:ae V->St,st=λz=>[some (.ref wa),some (.int ow),some (.str (aH b)),some (oV pr),some (.int many),some (oV shows),some (.str way),some (.ref na),some (.str (aH (!b))),z,some (.ref tl),some (.bl (decide (many<=gM ow b pr (B.at (!b)))))]:=⟨_,rfl⟩
 refine⟨CA H wa lo na tl ad W B ow b pr many shows way st,?_,?_⟩
 ·by_cases go:B.aY=false/\mQ B ow b pr many way=true
  ·obtain⟨gc,gm⟩:=go
   obtain⟨inv,hinv⟩:∃inv:Nat->St->Hp->Prop,inv=Xa H wa lo na tl ad W B ow b pr many shows st:=⟨_,rfl⟩
   refine⟨inv,⟨many.toNat+(B.at (!b)).length,by rw[hinv];exact⟨[],B.cX,many,W3,lo,th,[],by rw[gn];rfl,.nil _ _,A2,Mo,xu,⟨ps.ps⟩,by omega,fM _,R7,ED,SM,zZ,t_,.nil,wO,F7,rfl,by show 0+(many.toNat+(B.at (!b)).length)<=_;omega⟩⟩,λμ σ H8 h8=>?_⟩
   rw[hinv]at h8
   obtain⟨aS,B1,l1,W1,lo1,th,ts,rfl,met,ja,lN,bD,jw,nZ,lA,R8,mF,xm,ly,adn,qu,wQ,F8,rfl,hμ⟩:=h8
   have post:eu (B1.at (!b)) l1 b pr= .aE->CA H wa lo na tl ad W B ow b pr many shows way st (st (some (.ref th))) H8:=λhn=>
    ⟨aS,B1,l1,W1,lo1,ts,some (.ref th),rfl,.inr ⟨gc,gm,met,hn⟩,nZ,lA,ja,lN,R8,mF,xm,ly,qu,by omega,F8⟩
   have XG:W1.aY=false:=by rw[ja.cl,(met.iO xu).1.cl];exact gc
   rw[gn]at*
   refine(rX rfl ⟨wa,rX rfl ⟨R8.wg (uA W1 lo1),rX rfl (bY (by rw[XG];rfl) (rX rfl ⟨na,rX rfl ⟨cg mF rfl,r2 rfl rfl (rX rfl ?_)⟩⟩))⟩⟩)
   by_cases h0:0<l1
   rotate_left
   ·refine bj (cW h0) (bF (post ?_))
    have:l1=0:=by omega
    cases B1.at (!b)with
    |nil=>rfl
    |cons x t=>show(if l1=0 then V.aE else _)= .aE;rw[aA this]
   refine bY (bO h0) ?_
   cases lu:fV B1 b pr with
   |nil=>
    rw[lu]at wQ
    exact(rX rfl ⟨false,.inl ⟨_,aK.of wQ,rfl⟩,bF (bF (post (ziH bD lu)))⟩)
   |cons x t=>
   rw[lu]at wQ
   have Ed:(!decide (way="whole")||decide (many<=gM ow b pr (B.at (!b))))=true:=gm
   refine(rX rfl ⟨true,.inl ⟨_,aK.of wQ,rfl⟩,bL (Wf rfl rfl ?_)⟩)
   rw[Ed]
   refine bL ⟨λσ2 H2=>∃μ',μ'<l1.toNat+(B1.at (!b)).length/\inv μ' σ2 H2,λ_ _ h=>h,?_⟩
   obtain⟨B2,xf,iP,ij,xG,ZN,aj6,hμ2⟩:=zj9 met ja bD jw lu h0
   have Um:x.er∈W1.es:=ja.in.mpr ⟨x,dU.mpr ⟨!b,(List.mem_filter.mp (show x∈fV B1 b pr by rw[lu];exact bA)).1⟩,rfl⟩
   have zG:ts.length<sizeLine:=by
    have:=Paired.len qu
    rw[a7]
    omega
   have m6:=lN.meet (ja.nd bD) Um ow l1
   have c1:B1.aG<=31:=by rw[(met.iO xu).1.ca];show B.aG+1<=31;omega
   refine(rX rfl ⟨.inl ⟨rfl,_,aK.of ly⟩,rX rfl (rX rfl (rX rfl ⟨wa,lo1,na,th,ad,W1,B.aG,ow,b,pr,l1,shows,x.er,t.map (λe:Ent=>V.ref (ad e.num)),rfl,R8,mF,xm,Um,wQ,Oq ja bD c1,λt2 jU H9 R9 EE adj ht9 k9 f9 l9=>?_⟩))⟩)
   generalize(W1.meet ow l1 x.er).1=ev at*
   generalize(W1.meet ow l1 x.er).2.1=W2 at*
   generalize(W1.meet ow l1 x.er).2.2=l2 at*
   have wR:=l9 _ _ ly
   refine⟨tl,ts,.ref t2,rfl,rfl,wR,zG,?_⟩
   have SR:¬cf wa jU ad W2 tl:=λz=>by
    rcases f9 tl z with z|z
    ·exact adn z
    ·rw[ly]at z
     cases z
   have vq:=R9.other (o:=.lst (ts++ [.ref t2])) SR
   have ntn:na≠tl:=λz=>by rw[z,wR]at EE;cases EE
   have ch:∀{y:ah} {xs:aa V},H9 y=some (.tup xs)->upd H9 tl (.lst (ts++ [.ref t2])) y=some (.tup xs):=λ{y xs} hy=>(aw λz=>by rw[z,wR]at hy;cases hy).trans hy
   refine zjj (b:=b) (pr:=pr) rfl rfl rfl rfl vq iP ij m6 λth2 vh kE aaM aaN=>?_
   have vt:=vq.same kE
   have Z1:=kE _ _ ((aw ntn).trans EE)
   have zY:=kE _ _ (aB (H:=H9) (a:=tl) (o:=.lst (ts++ [.ref t2])))
   have EZ:=kE _ _ (ch ht9)
   have old:∀{y:ah} {xs:aa V},H8 y=some (.tup xs)->vh y=some (.tup xs):=λ{y xs} hy=>kE _ _ (ch (k9 _ _ hy (yo R8 hy) λz=>by rw[z,mF]at hy;cases hy))
   refine⟨l2.toNat+(B2.at (!b)).length,hμ2,?_⟩
   rw[hinv]
   refine⟨aS++ [ev],B2,l2,W2,jU,th2,ts++ [.ref t2],rfl,xf,iP,m6,ij,xG,ZN,by omega,vt,Z1,adj,zY,SR,Paired.snoc ⟨t2,rfl,EZ⟩ (Paired.eJ qu λv ev ⟨t',h1,h2⟩=>⟨t',h1,old h2⟩),aaN,⟨λy o hy hn=>?_,λy hy=>?_,λy xs hy=>?_⟩,rfl,by rw[gF,u3];omega⟩
   ·have y8:=F8.kp y o hy hn
    have yn:¬cf wa lo1 ad W1 y:=λz=>by
     rcases F8.ft y z with z|z
     ·exact hn z
     ·rw[hy]at z;cases z
    have y9:=k9 y o y8 yn λz=>by rw[z,DC]at hy;cases hy
    exact kE _ _ ((aw λz=>by rw[z,kY]at hy;cases hy).trans y9)
   ·rcases f9 y hy with z|z
    ·exact F8.ft y z
    ·by_cases hO:cf wa lo ad W y
     ·exact .inl hO
     ·cases e:H y with
      |none=>exact .inr rfl
      |some o=>
       rw[F8.kp y o e hO]at z
       cases z
   ·exact kE _ _ ((aw λz=>by rw[z,kY]at hy;cases hy).trans (l9 _ _ (F8.li y xs hy)))
  ·rw[gn]at*
   have post:∀z9,(B.aY=true\/mQ B ow b pr many way=false)->CA H wa lo na tl ad W B ow b pr many shows way (λz=>[some (.ref wa),some (.int ow),some (.str (aH b)),some (oV pr),some (.int many),some (oV shows),some (.str way),some (.ref na),some (.str (aH (!b))),z,some (.ref tl),some (V.bl (decide (many<=gM ow b pr (B.at (!b)))))]) ((λz=>[some (.ref wa),some (.int ow),some (.str (aH b)),some (oV pr),some (.int many),some (oV shows),some (.str way),some (.ref na),some (.str (aH (!b))),z,some (.ref tl),some (V.bl (decide (many<=gM ow b pr (B.at (!b)))))]) z9) H7:=λz9 hn=>
    ⟨[],B.cX,many,W3,lo,[],z9,rfl,.inl ⟨hn,rfl,rfl,rfl⟩,by omega,fM _,A2,Mo,R7,ED,SM,zZ,.nil,dD _,F7⟩
   refine⟨λμ σ H'=>σ= [some (.ref wa),some (.int ow),some (.str (aH b)),some (oV pr),some (.int many),some (oV shows),some (.str way),some (.ref na),some (.str (aH (!b))),some (.ref th),some (.ref tl),some (.bl (decide (many<=gM ow b pr (B.at (!b)))))]/\H'=H7,⟨0,rfl,rfl⟩,?_⟩
   rintro μ σ H' ⟨rfl,rfl⟩
   refine(rX rfl ⟨wa,rX rfl ⟨R7.wg (uA W3 lo),rX rfl ?_⟩⟩)
   rw[XH]
   cases df:B.aY with
   |true=>exact bF (bF (post _ (.inl df)))
   |false=>
    have hm:mQ B ow b pr many way=false:=by
     cases e:mQ B ow b pr many way with
     |false=>rfl
     |true=>exact absurd ⟨df,e⟩ go
    refine bL (rX rfl ⟨na,rX rfl ⟨cg ED rfl,r2 rfl rfl (rX rfl (bY (bO (by omega)) ?_))⟩⟩)
    cases lu:fV B.cX b pr with
    |nil=>
     rw[lu]at wO
     exact(rX rfl ⟨false,.inl ⟨_,aK.of wO,rfl⟩,bF (bF (post _ (.inr hm)))⟩)
    |cons x t=>
     rw[lu]at wO
     have Ed:(!decide (way="whole")||decide (many<=gM ow b pr (B.at (!b))))=false:=hm
     refine(rX rfl ⟨true,.inl ⟨_,aK.of wO,rfl⟩,bL (Wf rfl rfl ?_)⟩)
     rw[Ed]
     exact bF (post _ (.inr hm))
 rintro σ H8 ⟨aS,B2,l2,W2,jU,ts,z9,rfl,aG,nZ,lA,iP,m6,R8,mF,xm,ly,qu,tF,F8⟩
 rw[gn]
 obtain⟨ij,Ft⟩:=aG.ok xu
 have Qk:B2.aG=B.aG+1:=Ft.ca
 refine⟨λσ H'=>σ= [some (.ref wa),some (.int ow),some (.str (aH b)),some (oV pr),some (.int many),some (oV shows),some (.str way),some (.ref na),some (.str (aH (!b))),z9,some (.ref tl),some (.bl (decide (many<=gM ow b pr (B.at (!b)))))]/\∃B' cj iE W',uL B ow b pr many shows way aS B'/\B'.Ok/\WB W' B'/\Wp W'/\bP H' wa cj iE W'/\(∃kv,H' na=some (.dK kv)/\bQ kv (Sum.inr "number")=some (.int B.aG))/\H' tl=some (.lst ts)/\oN H' ts aS/\cM wa H lo ad W H' cj iE W',?_,?_⟩
 ·refine(rX rfl ⟨rfl,rX rfl ?_⟩)
  by_cases hw:way="rest"
  rotate_left
  ·exact bj (by simp[hw]) (bF ⟨rfl,B2,jU,ad,W2,⟨B2,l2,aG,nZ,lA,.inr ⟨λz=>hw z.1,rfl⟩⟩,ij,iP,m6,R8,⟨_,mF,rfl⟩,ly,qu,F8⟩)
  refine bY (by rw[hw];simp) (rX rfl ⟨na,rX rfl ⟨cg mF rfl,r2 rfl rfl (rX rfl ?_)⟩⟩)
  by_cases h0:0<l2
  rotate_left
  ·exact bj (cW h0) ⟨rfl,B2,jU,ad,W2,⟨B2,l2,aG,nZ,lA,.inr ⟨λz=>h0 z.2,rfl⟩⟩,ij,iP,m6,R8,⟨_,mF,rfl⟩,ly,qu,F8⟩
  obtain⟨p,hp⟩:∃p,pr=some p:=by
   cases pr with
   |some p=>exact⟨p,rfl⟩
   |none=>exact absurd hw (dY.2.2.1 rfl)
  subst hp
  obtain⟨en,bp⟩:∃en:Ent,en=⟨0,0,0,B.aG,ow,b,p,many,shows,l2,0,0⟩:=⟨_,rfl⟩
  have ky:en.num=B.aG:=by rw[bp]
  have wH:∀x∈B2.all,x.num≠en.num:=λx hx=>by rw[ky];exact Na ok Ft x hx
  have c0:0<=B.aG:=by have:=ok.ct;omega
  have SS:(B2.put en 0).Ok:=by
   refine ij.put 0 (by rw[ky];exact c0) (by rw[ky,Qk];omega) (λb' x hx=>wH x (dU.mpr ⟨b',hx⟩)) ?_
   have z1:=Ft.ln
   have z2:=ok.ct
   rw[Qk]
   have z1:B2.aU.length+B2.aV.length<=B.aU.length+B.aV.length:=z1
   omega
  have wbp:=iP.put ij wH SS
  have wpp:=m6.put en.er
  refine bY (bO h0) (rX rfl (rX rfl ⟨wa,jU,na,ad,W2,_,en.er,rfl,R8,mF,by show 6<=10;decide,λz=>xm (.inl z),λx hx z=>absurd (.inr (.inr ⟨x,hx,z.symm⟩)) xm,Oq iP ij (by omega),by rw[bp];rfl,λp'=>by rw[bp];rfl,λp'=>by rw[bp];rfl,λp' s'=>by rw[bp];rfl,λlo3 H9 R9 k9 f9 l9=>?_⟩))
  have EB:({en.er with place:=W2.places,shown:=cp en.er.shows en.er.left}:Ent)∈(W2.put en.er).es:=iB _ bA
  have o9:=(R9.o _ EB).1
  have o9:H9 (gW ad en.er.num na en.er.num)=_:=o9
  rw[uG]at o9
  have old:∀{y:ah} {xs:aa V},H8 y=some (.tup xs)->H9 y=some (.tup xs):=λ{y xs} hy=>k9 _ _ hy (yo R8 hy) λz=>by rw[z,mF]at hy;cases hy
  refine⟨rfl,B2.put en 0,lo3,_,W2.put en.er,⟨B2,l2,aG,nZ,lA,.inl ⟨hw,h0,0,0,p,0,rfl,by rw[bp]⟩⟩,SS,wbp,wpp,R9,⟨_,o9,by show some (V.int en.num)=_;rw[ky]⟩,l9 _ _ ly,Paired.eJ qu λv ev ⟨t',h1,h2⟩=>⟨t',h1,old h2⟩,⟨λy o hy hn=>?_,λy hy=>?_,λy xs hy=>l9 _ _ (F8.li y xs hy)⟩⟩
  ·refine k9 y o (F8.kp y o hy hn) (λz=>?_) λz=>by rw[z,DC]at hy;cases hy
   rcases F8.ft y z with z|z
   ·exact hn z
   ·rw[hy]at z;cases z
  ·rcases f9 y hy with z|z|z
   ·exact F8.ft y z
   ·exact .inr (by rw[z];exact DC)
   ·by_cases hO:cf wa lo ad W y
    ·exact .inl hO
    ·cases e:H y with
     |none=>exact .inr rfl
     |some o=>
      rw[F8.kp y o e hO]at z
      cases z
 rintro σ H9 ⟨rfl,B',cj,iE,W',pl,fg,wb',wp',R9,⟨kv,cw,kn⟩,wR,Yq,F9⟩
 refine(rX rfl ⟨na,rX rfl ⟨cg cw kn,rX rfl ⟨dM 2 rfl,λt ht=>?_⟩⟩⟩)
 have n_:=aQ (o:=.tup [.int B.aG,.ref tl]) ht
 exact q _ (.placed B.aG aS) B' cj iE W' _ (.pl hg qU pl) ⟨t,tl,ts,rfl,aB,n_ _ _ wR,Paired.eJ Yq (λv ev ⟨t',h1,h2⟩=>⟨t',h1,n_ _ _ h2⟩),tF⟩ fg wb' wp' (R9.same n_) (F9.trans (cM.same n_))
end
end Fb
namespace L2
open PySem PySem.Spec PyProof.Rows Fb
section
theorem Mu(hc:X.calm=true)(hu:X.A.units+1<cLine):jf X (.builtin "min") (λxs H Q=>∃(l:ah) (vs:aa V) (b:aa Int) (r:aa (aa Int)),xs= [.ref l]/\H l=some (.lst vs)/\rZ H vs (b::r)/\∀t,H t=some (.tup ((bU b r).map V.int))->Q (.ref t) H):=by
 intro pins s σ H xs us Q I r h
 obtain⟨l,vs,b,rr,rfl,hl,hr,q⟩:=h
 obtain⟨u,rfl,rx⟩:=jg r
 cases rx
 obtain⟨its,rv,⟨o,n,e,c,_,dt⟩,_⟩:=I.list (aK.of hl)
 have dc:its≠[]:=by
  cases hr
  cases rv
  simp
 refine zk2 (lt:=i7 H) (vs:=its) (I.ok.hd hc) ⟨o,e,c,n,dt⟩ dc (λv hv y hy s' Q' E' k q=>?_) (λv h' tk hv k=>?_)
 ·obtain⟨a,ns,rfl,ha⟩:=xY hr rv v hv
  obtain⟨b',ms,rfl,hb⟩:=xY hr rv y hy
  obtain⟨i1,r1,⟨o1,e1,c1,n1,d1⟩,_⟩:=I.tuple (aM.of ha)
  obtain⟨i2,r2,⟨o2,e2,c2,n2,d2⟩,_⟩:=I.tuple (aM.of hb)
  have z:i7 H (.ref a) (.ref b')=HT.lexLt ns ms:=by
   unfold i7
   rw[uM ha,uM hb]
  rw[z]at q
  exact HT.Fs (A:=X.A.in1) ⟨o1,k _ _ e1,c1,n1,d1⟩ ⟨o2,k _ _ e2,c2,n2,d2⟩ (uB r1) (uB r2) (by rw[Around.in1_units];exact hu) q
 ·cases hr with
  |cons qT EX=>
   obtain⟨a,rfl,ha⟩:=qT
   cases rv with
   |cons r1 r2=>
    cases r1
    obtain⟨z,h1,h2⟩:=A_ EX r2 ha
    have e3:jB (i7 H) none (.ref a::_)=some (.ref z):=h1
    rw[e3]at hv
    obtain rfl:=cq hv
    exact⟨.ref z,H,I.kept k,rfl,q z h2⟩
end
end L2
namespace Fb
open PySem L2
theorem zjo{xs ys:aa Int}(h:xs.Perm ys):eZ xs=eZ ys:=by
 induction h with
 |nil=>rfl
 |cons x _ ih=>show x+eZ _=x+eZ _;rw[ih]
 |swap x y l=>show y+(x+eZ l)=x+(y+eZ l);omega
 |trans _ _ h1 h2=>exact h1.trans h2
theorem WD(b:ai)(p:Int):∀xs:aa Ent,eZ ((xs.filter λe=>cy p (aH b) (some e.ar)).map (·.left))=br b p xs
 | []=>rfl
 |x::t=>by
  have ih:=WD b p t
  have hg:cy p (aH b) (some x.ar)=decide (fj b p x):=by
   cases b
   ·show(if aH false="buy" then decide (p<=x.ar)else decide (x.ar<=p))=decide (x.ar<=p)
    rw[ax (by decide+kernel)]
   ·show(if aH true="buy" then decide (p<=x.ar)else decide (x.ar<=p))=decide (p<=x.ar)
    rw[aA (show aH true="buy" from rfl)]
  show _=(if fj b p x then x.left else 0)+br b p t
  by_cases h:fj b p x
  ·rw[yD (p:=λe:Ent=>cy p (aH b) (some e.ar)) (by show cy p (aH b) (some x.ar)=true;rw[hg];exact bO h),aA h,<-ih]
   rfl
  ·rw[B6 (p:=λe:Ent=>cy p (aH b) (some e.ar)) (by show ¬cy p (aH b) (some x.ar)=true;rw[hg];exact λz=>h (eB z)),ax h,ih]
   omega
theorem Pj(b:ai)(p:Int):∀xs:aa Ent,br b p (xs.map Ent.er)=br b p xs
 | []=>rfl
 |x::t=>by
  show(if fj b p x.er then x.er.left else 0)+br b p (t.map Ent.er)=_
  rw[Pj b p t]
  rfl
theorem zjc{W:Ws}(h:WB W B)(ok:B.Ok)(b:ai)(p:Int):eZ (((W.es.filter λx=>x.au==b).filter λe=>cy p (aH b) (some e.ar)).map (·.left))=br b p (B.at b):=by
 have h1:(W.es.filter λx=>x.au==b).Perm ((B.at b).map Ent.er):=by
  refine(h.es.filter _).trans ?_
  rw[B7]
  have:((λx:Ent=>x.au==b)∘Ent.er)=λx:Ent=>x.au==b:=by funext x;rfl
  rw[this,Nd ok]
 rw[zjo ((h1.filter _).map _),WD,Pj]
section
variable {bW:ah} {a:c_} {n:fe} {u:fF} {e:gI} {r:iC}
theorem Tx:bc ["_law_world","_law_side_here","_law_price_here","_law_rows"] ["_law_world","_law_side_here","_law_price_here"] (aX MN):=bw
inductive agk(vs:List V)(H:Hp)(Q:VK)(_:XK):Prop
 |mk (wa lo:Addr) (ad:Int->Addr) (W:Ws) (B:Bk) (b:Bool) (p:Int) (_:vs= [.ref wa,.str (aH b),.int p]) (_:bP H wa lo ad W) (_:WB W B) (_:B.Ok) (_:∀H',aL H H'->Q (.int (br b p (B.at b))) H')
noncomputable abbrev Tz:TT:=hV (e7 mW (ej (aW 0) (tC (.str "side"))) (aW 1))
noncomputable abbrev Ul:TT:=tB (uU LW [] E0 (du (aW 1) (du (ej (aW 0) (tC (.str "price"))) (du (aW 2) g7))))
theorem ab4(Z:jL mg)(Wt:eE K mg c r):Kp P w K mg base 2 r.wanted ["_law_world","_law_side_here","_law_price_here"] agk:=Wt.wanted.kp λfd G=>by
 obtain⟨cK,G1,b1,k1⟩:=WO (P:=P) (w:=w) (base:=base) Wt
 refine G.bT Tx λ_ _ _ _ H _ _ _ hr h=>?_
 obtain⟨wa,lo,ad,W,B,b,p,rfl,R,wb,ok,q⟩:=h
 have hu:=fc hr
 refine⟨_,az (uI (i:=3) (own:=["_law_one"]) (caps:=[("_law_side_here",1)]) (g:=cT 0) (tc:=Tz) (te:=aW 0) Tx.nd rfl (Or.inl rfl) rfl (by decide+kernel) (oM ⟨rfl,rfl,rfl⟩) (by decide+kernel) rfl (by decide+kernel)
   (gz (a_ hu (pv 0))) (λ_ _ _ _ _=>eO (i:=0) (show(["_law_one","_law_side_here"]:aa Str).Nodup by decide+kernel) rfl (Or.inl (bV rfl)) (Or.inr (bV rfl)))
   (λ_ _ _ _ _=>lU (bC cQ (a_ hu (pv 0 rfl (.inl (bV rfl)))) (pv 1 rfl (.inr (iu rfl))) (a9 _)))
   (λ_ _ _ _ _=>pv 0 rfl (.inl (bV rfl))))
  (aD (a8 (c9 (MV rfl) (by rfl) Z.sum (by decide+kernel) (av (ou (own:=["_law_one"]) (caps:=[("_law_side_here",1),("_law_price_here",2)]) (g:=cT 0) (tc:=Ul) (te:=ej (aW 0) (tC (.str "left"))) rfl (by decide+kernel) (C9 ⟨rfl,rfl,rfl⟩ ⟨rfl,rfl,rfl⟩) (by decide+kernel) rfl (by decide+kernel)
   (gz (pv 3)) (λ_ _ _ _ _=>eO (i:=0) (show(["_law_one","_law_side_here","_law_price_here"]:aa Str).Nodup by decide+kernel) rfl (Or.inl (bV rfl)) (Or.inr (bV rfl)))
   (λ_ _ _ _ _=>lU (e8 (bG G1 hr Wt.pj k1 b1 (av (pv 1 rfl (.inr (iu rfl))) (av (a_ hu (pv 0 rfl (.inl (bV rfl)))) (av (pv 2 rfl (.inr (iu rfl))) ay))))))
   (λ_ _ _ _ _=>a_ hu (pv 0 rfl (.inl (bV rfl))))) ay)))),?_⟩
 have ln:=R.ln
 refine⟨[.str (aH b)],rfl,oK rfl,_,rfl,wa,_,rfl,R.wg (pU W lo),lo,rfl,⟨_,aK.of R.l⟩,?_⟩
 refine oB (K:=K) (σ0:=List.replicate 1 none++ [some (.str (aH b))]) (g:=cT 0) (tc:=Tz) (te:=aW 0) (xs:=W.es.map λe=>.ref (ad e.num)) (dX W.es (λx=>x.au==b) λe=>.ref (ad e.num)) (aK.of R.l) (by rw[bH,a7];omega) (λj x hx Rt Rf ht hf=>?_) λp1 g0=>?_
 ·obtain⟨y,hy,rfl⟩:=iS hx
  have hm:=d6 hy
  have hp:dX W.es (λx=>x.au==b) (λe=>.ref (ad e.num)) j (.ref (ad y.num))=if(y.au==b)=true then some (.ref (ad y.num))else none:=by unfold dX;rw[hy]
  have ll:decide (V.str (aH y.au)=V.str (aH b))=(y.au==b):=by cases y.au<;>cases b<;>decide+kernel
  refine(rX rfl ⟨ad y.num,rX rfl ⟨R.og hm rfl,rX rfl ⟨rfl,rX rfl ?_⟩⟩⟩)
  cases e:(y.au==b)with
  |true=>exact bY (ll.trans e) ⟨_,rfl,ht _ (by rw[hp,e];rfl)⟩
  |false=>exact bj (ll.trans e) (hf (by rw[hp,e];rfl))
 rw[oA]
 have s1:=aQ (o:=.lst ((W.es.filter λx=>x.au==b).map λe=>V.ref (ad e.num))) g0
 have jt:upd H p1 (.lst ((W.es.filter λx=>x.au==b).map λe=>V.ref (ad e.num))) p1=some (.lst ((W.es.filter λx=>x.au==b).map λe=>V.ref (ad e.num))):=aB
 generalize upd H p1 (.lst ((W.es.filter λx=>x.au==b).map λe=>V.ref (ad e.num)))=H1 at*
 have R1:=R.same s1
 refine⟨[.str (aH b),.int p],rfl,Ph rfl rfl,_,rfl,p1,rfl,⟨_,aK.of jt⟩,?_⟩
 have ln2:(W.es.filter λx=>x.au==b).length<=40:=eA (sy _ _) ln
 refine oB (K:=K) (σ0:=List.replicate 1 none++ [some (.str (aH b)),some (.int p)]) (g:=cT 0) (tc:=Ul) (te:=ej (aW 0) (tC (.str "left"))) (xs:=(W.es.filter λx=>x.au==b).map λe=>.ref (ad e.num)) (dX (W.es.filter λx=>x.au==b) (λe=>cy p (aH b) (some e.ar)) λe=>.int e.left) (aK.of jt) (by rw[bH,a7];omega) (λj x hx Rt Rf ht hf=>?_) λp2 eV=>?_
 ·obtain⟨y,hy,rfl⟩:=iS hx
  have hm:=(List.mem_filter.mp (d6 hy)).1
  have hp:dX (W.es.filter λx=>x.au==b) (λe=>cy p (aH b) (some e.ar)) (λe=>V.int e.left) j (.ref (ad y.num))=if cy p (aH b) (some y.ar)=true then some (.int y.left)else none:=by unfold dX;rw[hy]
  refine(rX rfl (rX rfl ⟨ad y.num,rX rfl ⟨R1.og hm rfl,rX rfl ⟨b,some y.ar,p,rfl,rX rfl ?_⟩⟩⟩))
  cases e:cy p (aH b) (some y.ar)with
  |true=>exact bL ⟨_,rfl,ad y.num,_,rfl,R1.og hm rfl,ht _ (by rw[hp,e];rfl)⟩
  |false=>exact bF (hf (by rw[hp,e];rfl))
 rw[oA]
 have hints:((W.es.filter λx=>x.au==b).filter λe=>cy p (aH b) (some e.ar)).map (λe=>V.int e.left)=(((W.es.filter λx=>x.au==b).filter λe=>cy p (aH b) (some e.ar)).map (·.left)).map V.int:=by rw[gG];rfl
 rw[hints]
 refine⟨p2,_,rfl,aK.of aB,?_⟩
 rw[zjc wb ok]
 exact q _ (s1.trans (aQ eV))
end
open PySem L2
section
variable {bW:ah} {a:c_} {n:fe} {u:fF} {e:gI} {r:iC}
theorem sj:bc ["_law_world","_law_ranks","_law_one","_law_price_here","_law_buys","_law_sells","_law_far"] ["_law_world"] (aX MB):=bw
inductive afs(vs:List V)(H:Hp)(Q:VK)(_:XK):Prop
 |mk (wa lo:Addr) (ad:Int->Addr) (W:Ws) (B:Bk) (_:vs= [.ref wa]) (_:bP H wa lo ad W) (_:WB W B) (_:B.Ok) (_:∀(qs:List Int) (H':Hp),aL H H'->(∀p,p∈qs↔∃b,∃e∈B.at b,e.ar=p)->(kj (qs.map (bg B))=none->Q .aE H')/\∀p k t,kj (qs.map (bg B))=some (p,k)->H' t=none->Q (.ref t) (upd H' t (.tup [.int p,.int k])))
theorem zhE(C:bR K mg c)(Z:jL mg)(Wt:eE K mg c r):Kp P w K mg base 3 r.jN ["_law_world"] afs:=Wt.jN.kp λfd G=>by
 obtain⟨cK,G1,b1,k1⟩:=ab4 (P:=P) (w:=w) (base:=base) Z Wt
 refine G.bT sj λ_ _ _ _ H _ Q _ hr h=>?_
 obtain⟨wa,lo,ad,W,B,rfl,R,wb,ok,q⟩:=h
 have hu:=fc hr
 refine⟨_,az (aZ 1 sj.nd (fW ay))
  (az (oI jG rfl (gz (a_ hu (pv 0))) (eO (i:=2) sj.nd rfl (Or.inl rfl))
   (az (aZ 3 sj.nd (a_ hu (pv 2)))
   (az (aZ 4 sj.nd (bG G1 hr Wt.DN k1 b1 (av (pv 0) (av aJ (av (pv 3) ay)))))
   (az (aZ 5 sj.nd (bG G1 hr Wt.DN k1 b1 (av (pv 0) (av aJ (av (pv 3) ay)))))
   (az (m9 (aZ 6 sj.nd (rS (gB (jA (a_ hu (pv 0)))) aF (c9 Bl (by rfl) Z.abs (by decide+kernel) (av (ba kJ (pv 3) (a_ hu (pv 0))) ay)))))
   (aD (cP (lX l8 sF sG rJ (pv 1) (av (eM (av (ba kJ aF (c9 (pT rfl) (by rfl) C.min (by decide+kernel) (av (pv 4) (av (pv 5) ay)))) (av (c9 Bl (by rfl) Z.abs (by decide+kernel) (av (ba kJ (pv 4) (pv 5)) ay)) (av (pv 6) (av (pv 3) ay))))) ay)))))))))
  (az (bK (PW.pt (jE (jd (Bp (pv 1) (λ_=>rfl))) (jz (bC cQ (lB (c9 (Mu rfl hu) (by rfl) C.min (by decide+kernel) (av (pv 1) ay))) aF (a9 _))))) (aD (a8 g_)) bZ)
  (aD (a8 (eM (av (lB (c9 (Mu rfl hu) (by rfl) C.min (by decide+kernel) (av (pv 1) ay))) (av (ba kJ aF (lB (c9 (Mu rfl hu) (by rfl) C.min (by decide+kernel) (av (pv 1) ay)))) ay))))))),?_⟩
 have ln:=R.ln
 refine⟨dM 0 rfl,λrl Q_=>?_⟩
 have s0:=aQ (o:=.lst []) Q_
 have R0:=R.same s0
 refine(rX rfl ⟨wa,rX rfl ⟨R0.wg (pU W lo),lo,rfl,⟨_,aK.of R0.l⟩,?_⟩⟩)
 refine yj (K:=K) (a:=lo) (xs:=W.es.map λe=>.ref (ad e.num)) (λj σ H'=>∃(y2 y3 y4 y5 y6:ae V) (wv:aa V),σ= [some (.ref wa),some (.ref rl),y2,y3,y4,y5,y6]/\aL H H'/\H' rl=some (.lst wv)/\rZ H' wv (((W.es.take j).map (·.ar)).map (bg B)))
  ⟨none,none,none,none,none,[],rfl,s0,aB,.nil⟩ (λj σ H' _ h=>?_) ?_ ?_
 ·obtain⟨_,_,_,_,_,_,_,s1,_⟩:=h
  exact aK.of (R.same s1).l
 ·rintro j v σ H1 hj ⟨y2,y3,y4,y5,y6,wv,rfl,s1,qQ,rows⟩
  obtain⟨y,hy,rfl⟩:=iS hj
  have hm:=d6 hy
  have R1:=R.same s1
  refine(rX rfl ⟨ad y.num,rX rfl ⟨R1.og hm rfl,rX rfl (rX rfl ⟨wa,lo,ad,W,B,true,y.ar,rfl,R1,wb,ok,λH2 s2=>(rX rfl (rX rfl ⟨wa,lo,ad,W,B,false,y.ar,rfl,R1.same s2,wb,ok,λH3 s3=>?_⟩))⟩)⟩⟩)
  have AH:=s2.trans s3
  have R3:=R1.same AH
  refine⟨λσ H'=>σ= [some (.ref wa),some (.ref rl),some (.ref (ad y.num)),some (.int y.ar),some (.int (br true y.ar (B.at true))),some (.int (br false y.ar (B.at false))),some (.int (pf y.ar B.last))]/\H'=H3,?_,?_⟩
  ·refine(rX rfl ⟨wa,rX rfl ⟨R3.wg (Ot W lo),rX rfl ?_⟩⟩)
   rw[wb.la]
   cases QL:B.last with
   |none=>exact bY rfl ⟨rfl,rfl⟩
   |some l=>
    refine bj rfl (rX rfl (rX rfl ⟨wa,rX rfl ⟨R3.wg (Ot W lo),?_⟩⟩))
    rw[wb.la,QL]
    exact⟨_,_,rfl,rfl,_,rfl,rfl,rfl⟩
  rintro σ H' ⟨rfl,rfl⟩
  have EV:=AH _ _ qQ
  have zH:wv.length<sizeLine:=by
   have:=Paired.len rows
   rw[bH,bH,iT]at this
   rw[a7]
   omega
  refine(rX rfl ⟨.inl ⟨rfl,_,aK.of EV⟩,rX rfl (rX rfl ⟨_,rX rfl (r2 rfl rfl (rX rfl (rX rfl (r2 rfl rfl (rX rfl (rX rfl (rX rfl ⟨dM 4 rfl,λt ht=>?_⟩)))))))⟩)⟩)
  have aaP:([.int (0-mn (br true y.ar (B.at true)) (br false y.ar (B.at false))),.int (if br true y.ar (B.at true) -br false y.ar (B.at false)<0 then-(br true y.ar (B.at true) -br false y.ar (B.at false))else br true y.ar (B.at true) -br false y.ar (B.at false)),.int (pf y.ar B.last),.int y.ar]:aa V)=(bg B y.ar).map V.int:=by
   rw[Int.zero_sub]
   rfl
  show g7 _ (upd H' t (.tup [.int (0-mn (br true y.ar (B.at true)) (br false y.ar (B.at false))),.int (if br true y.ar (B.at true) -br false y.ar (B.at false)<0 then-(br true y.ar (B.at true) -br false y.ar (B.at false))else br true y.ar (B.at true) -br false y.ar (B.at false)),.int (pf y.ar B.last),.int y.ar])) _
  rw[aaP]
  have s4:=aQ (o:=.tup ((bg B y.ar).map V.int)) ht
  refine⟨rl,wv,.ref t,rfl,rfl,s4 _ _ EV,zH,?_⟩
  have aay:=s4 _ _ EV
  have ch:∀{x:ah} {xs:aa V},upd H' t (.tup ((bg B y.ar).map V.int)) x=some (.tup xs)->upd (upd H' t (.tup ((bg B y.ar).map V.int))) rl (.lst (wv++ [.ref t])) x=some (.tup xs):=λ{x xs} hx=>(aw λz=>by rw[z,aay]at hx;cases hx).trans hx
  refine⟨_,_,_,_,_,_,rfl,λx o hx=>(aw (a6 hx Q_)).trans (s4 _ _ (AH _ _ (s1 x o hx))),aB,?_⟩
  rw[pS hy,jh,jh]
  exact Paired.snoc ⟨t,rfl,ch aB⟩ (Paired.eJ rows λv ns ⟨z,h1,h2⟩=>⟨z,h1,ch (s4 _ _ (AH _ _ h2))⟩)
 ·rintro σ H1 ⟨y2,y3,y4,y5,y6,wv,rfl,s1,qQ,rows⟩
  rw[bH,kL]at rows
  have mem:∀p,p∈W.es.map (·.ar)↔∃b,∃e∈B.at b,e.ar=p:=λp=>by
   rw[u4]
   constructor
   ·rintro⟨x,hx,rfl⟩
    obtain⟨b,y,hy,rfl⟩:=wb.mem.mp hx
    exact⟨b,y,hy,rfl⟩
   ·rintro⟨b,y,hy,rfl⟩
    exact⟨y.er,wb.mem.mpr ⟨b,y,hy,rfl⟩,rfl⟩
  obtain⟨qn,pL⟩:=q _ H1 s1 mem
  generalize W.es.map (·.ar)=qs at*
  cases qs with
  |nil=>
   cases rows
   exact(rX rfl ⟨false,.inl ⟨_,aK.of qQ,rfl⟩,bL (bL (qn rfl))⟩)
  |cons q0 r0=>
   obtain⟨z,_,ez,_,_⟩:=Bh B q0 r0
   have i4:kj ((q0::r0).map (bg B))=if-(mq B z)=0 then none else some (z,- -(mq B z)):=by
    show(if(bU (bg B q0) (r0.map (bg B))).headD 0=0 then none else some ((bU (bg B q0) (r0.map (bg B))).getD 3 0,-((bU (bg B q0) (r0.map (bg B))).headD 0)))=_
    rw[ez]
    rfl
   have ne:wv≠[]:=by
    cases rows
    simp
   have tr:∃v r,wv=v::r:=by
    cases wv with
    |nil=>exact absurd rfl ne
    |cons v r=>exact⟨v,r,rfl⟩
   have low:∀t,H1 t=some (.tup ((bU (bg B q0) (r0.map (bg B))).map V.int))->H1 t=some (.tup [.int (-(mq B z)),.int (vu (br true z B.aU-br false z B.aV)),.int (pf z B.last),.int z]):=λt ht=>by
    rw[ez]at ht
    exact ht
   refine(rX rfl ⟨true,.inl ⟨_,aK.of qQ,by obtain⟨v,r,hv⟩:=tr;rw[hv];rfl⟩,bF (rX rfl ⟨rl,wv,_,rX rfl ⟨qQ,rows,λt ht=>(rT t 0 rfl rfl (aM.of (low t ht)) (bf (j:=0) rfl) ⟨rfl,rX rfl ?_⟩)⟩⟩)⟩)
   by_cases h0: -(mq B z)=0
   ·rw[aA h0]at i4
    exact bY (by simp[h0]) (qn i4)
   ·rw[ax h0]at i4
    refine bj (by simp[h0]) (rX rfl ⟨rl,wv,_,rX rfl ⟨qQ,rows,λt2 E1=>(rT t2 3 rfl rfl (aM.of (low t2 E1)) (bf (j:=3) rfl) (rX rfl ⟨rl,wv,_,rX rfl ⟨qQ,rows,λt3 ht3=>(rT t3 0 rfl rfl (aM.of (low t3 ht3)) (bf (j:=0) rfl) (r2 rfl rfl ⟨dM 2 rfl,λp hp=>?_⟩))⟩⟩))⟩⟩)
    have:=pL _ _ p i4 hp
    show Q (.ref p) (upd H1 p (.tup [.int z,.int (0- -(mq B z))]))
    rw[Int.zero_sub]
    exact this
end
open PySem L2
theorem acW(a b c:Int):fz c a b=fz a b c:=by
 unfold fz
 split<;>split<;>split<;>first|omega| (split<;>omega)
theorem M5(W:Ws)(x:Ent)(k p v:Int):Ws.aP {W with last:=some p,bE:=v} x k={W.aP x k with last:=some p,bE:=v}:=by
 unfold Ws.aP
 split<;>rfl
theorem WH(W:Ws)(x:Ent)(k:Int):(W.aP x k).bE=W.bE:=by
 unfold Ws.aP
 split<;>rfl
theorem WI{W:Ws}{x:Ent}(nd:(W.es.map (·.num)).Nodup)(hx:x∈W.es)(hy:y∈W.es)(hn:y.num≠x.num)(k:Int):y∈(W.aP x k).es:=by
 have h1:y∈bX W.es (x.as (x.left-k) (cp x.shows (x.left-k))):=(MU (e':=x.as (x.left-k) (cp x.shows (x.left-k))) nd hx rfl).mpr (.inr ⟨hy,hn⟩)
 unfold Ws.aP
 split
 ·exact Nt.mpr ⟨h1,hn⟩
 ·exact h1
theorem zjE(x:Ent)(l s:Int):putK (oD {x with left:=l}) (Sum.inr "shown") (.int s)=oD (x.as l s):=rfl
theorem zjh(ps:B.Pos)(b:ai):ed (B.at b)<=10000*((B.at b).length:Int):=by
 have h:∀xs:aa Ent,(∀e∈xs,e.left<=10000)->ed xs<=10000*(xs.length:Int):=λxs=>by
  induction xs with
  |nil=>intro _;exact fM _
  |cons x t ih=>
   intro hx
   have h1:=ih λe he=>hx e (cE _ he)
   have h2:=hx x bA
   show x.left+ed t<=_
   rw[d5]
   omega
 exact h _ λe he=>(ps.ps b e he).2.2.1
section
variable {bW:ah} {a:c_} {n:fe} {u:fF} {e:gI} {r:iC}
theorem oJ:bc ["_law_world","_law_found","_law_told","_law_rest","_law_buy","_law_sell","_law_many","_law_one"] ["_law_world"] (aX Mx):=bw
inductive agi(vs:List V)(H:Hp)(Q:VK)(_:XK):Prop
 |mk (wa lo:Addr) (ad:Int->Addr) (W:Ws) (B:Bk) (k j:Int) (_:vs= [.ref wa]) (_:bP H wa lo ad W) (_:WB W B) (_:B.Ok) (_:B.Pos) (_:B.aG<=30) (_:Wp W) (_:uR H wa lo ad W B (.un k j) Q)
inductive Xi(H:Hp)(wa lo fa tl:Addr)(ad:Int->Addr)(W:Ws)(B:Bk)(p k:Int)(μ:Nat)(σ:St)(H':Hp):Prop
 |mk (ts:List (Int×Int×Int)) (B1:Bk) (st:Int) (W1:Ws) (lo1:Addr) (tv:List V) (z4 z5 z6 z7:Option V) (_:σ= [some (.ref wa),some (.ref fa),some (.ref tl),some (.int st),z4,z5,z6,z7]) (_:eT p B.il k ts B1 st) (_:WB W1 B1) (_:Wp W1) (_:bP H' wa lo1 ad W1) (_:H' tl=some (.lst tv)) (_:¬cf wa lo1 ad W1 tl) (_:oZ p H' tv ts) (_:H' fa=some (.tup [.int p,.int k])) (_:cM wa H lo ad W H' lo1 ad W1) (_:μ=st.toNat)
theorem zkm(C:bR K mg c)(Z:jL mg)(Wt:eE K mg c r):Kp P w K mg base 4 r.jY ["_law_world"] agi:=Wt.jY.kp λfd G=>by
 obtain⟨cK,G1,b1,k1⟩:=zhE (P:=P) (w:=w) (base:=base) C Z Wt
 obtain⟨dG,G2,b2,k2⟩:=OJ (P:=P) (w:=w) (base:=base) Z Wt
 obtain⟨gY,G3,b3,k3⟩:=RP (P:=P) (w:=w) (base:=base) C Wt
 obtain⟨kX,G4,b4,k4⟩:=Fj (P:=P) (w:=w) (base:=base) Wt
 refine G.bT oJ λ_ _ _ _ H _ _ _ hr h=>?_
 obtain⟨wa,lo,ad,W,B,kk,jj,rfl,R,wb,ok,ps,mr,wp,q⟩:=h
 have hu:=fc hr
 have b_:bB 1 _:=hr.mono (by decide)
 refine⟨_,az (bK (jd (e8 (a_ hu (pv 0)))) (aD (a8 aJ)) bZ)
  (az (gQ hu (pv 0) aJ iA rfl)
  (az (aZ 1 oJ.nd (bG G1 hr Wt.vM k1 b1 (av (pv 0) ay)))
  (az (aZ 2 oJ.nd (fW ay))
  (az (aZ 3 oJ.nd (rS (gB (jA (pv 1))) aF (lB (pv 1))))
  (az (yc jG (bC oP (pv 3) aF (a9 _))
   (az (aZ 4 oJ.nd (cv g9 (bG G2 hr Wt.sZ k2 b2 (av (pv 0) (av aJ ay))) aF (λ_ _=>rfl)))
   (az (aZ 5 oJ.nd (cv g9 (bG G2 hr Wt.sZ k2 b2 (av (pv 0) (av aJ ay))) aF (λ_ _=>rfl)))
   (az (aZ 6 oJ.nd (c9 (UW rfl) (by rfl) C.min (by decide+kernel) (av (pv 3) (av (a_ hu (pv 4)) (av (a_ hu (pv 5)) ay)))))
   (az (aZ 3 oJ.nd (ba kJ (pv 3) (pv 6)))
   (az (cP (lX l8 sF sG rJ (pv 2) (av (eM (av aJ (av (a_ hu (pv 4)) (av (a_ hu (pv 5)) (av (lB (pv 1)) (av (pv 6) ay)))))) ay)))
   (az (gQ hu (pv 0) aJ (lB (pv 1)) rfl)
   (az (gQ hu (pv 0) aJ (ba gR (a_ hu (pv 0)) (pv 6)) rfl)
   (aD (oI jG rfl (Oi (eM (av (pv 4) (av (pv 5) ay)))) (eO (i:=7) oJ.nd rfl (Or.inl rfl))
    (az (gQ hu (pv 7) aJ (ba kJ (a_ hu (pv 7)) (pv 6)) rfl)
    (az (cP (bG G3 b_ Wt.DL k3 b3 (av (pv 7) ay)))
    (aD (bK (bC cQ (a_ hu (pv 7)) aF (a9 _)) (aD (cP (bG G4 b_ Wt.vQ k4 b4 (av (pv 0) (av (a_ hu (pv 7)) ay))))) bZ))))))))))))))
  (aD (a8 (pv 2)))))))),?_⟩
 refine(rX rfl ⟨wa,rX rfl ⟨R.wg (uA W lo),rX rfl ?_⟩⟩)
 cases df:W.aY with
 |false=>exact bL (q _ (.str "now") B lo ad W H (.xO (by rw[<-wb.cl];exact df)) rfl ok wb wp R cM.refl)
 |true=>
 have Qp:B.aY=true:=by rw[<-wb.cl];exact df
 refine bF (rX rfl ⟨wa,rX rfl ⟨eS.k (k:=Sum.inr "calling") R.w (j4 6 (by decide)),?_⟩⟩)
 rw[Vq]
 have Mn:WB {W with aY:=false} B.il:=wb.calls false
 have Uj:Wp {W with aY:=false}:=⟨wp.z,wp.lt,wp.nd⟩
 have R0:=R.lJ (W':={W with aY:=false}) rfl
 have F0:cM wa H lo ad W _ lo ad {W with aY:=false}:=bP.AO (W:=W) (lo:=lo) (ad:=ad) (W':={W with aY:=false}) (kv:=({W with aY:=false}:Ws).dat lo) R.w rfl
 have XW:∀y,upd H wa (.dK ({W with aY:=false}.dat lo)) y=none->H y=none:=λy hy=>by
  by_cases e:y=wa
  ·rw[e,aB]at hy
   cases hy
  ·rw[aw e]at hy
   exact hy
 generalize({W with aY:=false}:Ws)=W0 at*
 generalize upd H wa (.dK (W0.dat lo))=H0 at*
 have xt:=xX ok
 have FU:=xZ ps
 refine(rX rfl ⟨wa,lo,ad,W0,B.il,rfl,R0,Mn,xt,λqs H1 s1 mem=>⟨λhn=>?_,λp k fa i4 D9=>?_⟩⟩)
 ·refine⟨dM 0 rfl,λtl tO=>(rX rfl (rX rfl (bY rfl ?_)))⟩
  have s2:=s1.trans (aQ (o:=.lst []) tO)
  refine⟨λμ σ H'=>σ= [some (.ref wa),some .aE,some (.ref tl),some (.int 0),none,none,none,none]/\H'=upd H1 tl (.lst []),⟨0,rfl,rfl⟩,?_⟩
  rintro μ σ H' ⟨rfl,rfl⟩
  exact(rX rfl (r2 rfl rfl (rX rfl (bF (rX rfl (q _ (.mZ 0 []) B.il lo ad W0 _ (.un Qp ⟨qs,mem,.inl ⟨hn,rfl,rfl⟩⟩) ⟨tl,[],rfl,aB,.nil,dD _⟩ xt Mn Uj (R0.same s2) (F0.trans (cM.same s2))))))))
 have hk:=NV i4
 obtain⟨m0,m1,m2⟩:=M4 ps p
 have zD:0<=k:=by rw[hk.2.1];exact m0
 have Em:∀b,k<=ed (B.il.at b):=λb=>by
  rw[hk.2.1]
  cases b
  ·exact m2
  ·exact m1
 refine⟨dM 0 rfl,λtl tO=>?_⟩
 have s2:=(aQ (o:=.tup [.int p,.int k]) D9)
 have s3:=s2.trans (aQ (o:=.lst []) tO)
 have Qw:upd (upd H1 fa (.tup [.int p,.int k])) tl (.lst []) fa=some (.tup [.int p,.int k]):=(aQ tO) _ _ aB
 have kY:H tl=none:=XW _ ((s1.trans s2).free tO)
 have t_:¬cf wa lo ad W0 tl:=Nh (R0.same (s1.trans s2)) tO
 have R3:=R0.same (s1.trans s3)
 have F3:=F0.trans (cM.same (s1.trans s3))
 have aaO:upd (upd H1 fa (.tup [.int p,.int k])) tl (.lst []) tl=some (.lst []):=aB
 generalize upd (upd H1 fa (.tup [.int p,.int k])) tl (.lst [])=H3 at*
 refine(rX rfl (rX rfl (bj rfl (rX rfl (rT fa 1 rfl rfl (aM.of Qw) (bf (j:=1) rfl) ?_)))))
 obtain⟨inv,hinv⟩:∃inv:Nat->St->Hp->Prop,inv=Xi H wa lo fa tl ad W B p k:=⟨_,rfl⟩
 refine⟨inv,⟨k.toNat,by rw[hinv];exact⟨[],B.il,k,W0,lo,[],none,none,none,none,rfl,.nil,Mn,Uj,R3,aaO,t_,.nil,Qw,F3,rfl⟩⟩,λμ σ H4 h4=>?_⟩
 rw[hinv]at h4
 obtain⟨ts,B1,st,W1,lo1,tv,z4,z5,z6,z7,rfl,met,ja,lN,R4,Rm,SQ,L_,Zy,F4,rfl⟩:=h4
 have tg:=met.good xt FU zD
 have bD:=tg.ok
 refine(rX rfl (r2 rfl rfl (rX rfl ?_)))
 by_cases gn:0<st
 rotate_left
 ·refine bj (cW gn) (rX rfl ?_)
  have e0:st=0:=by have:=tg.s0;omega
  subst e0
  have un:o_ B p ts B1:=⟨qs,mem,.inr ⟨k,i4,met⟩⟩
  have Es:B.aU.length+B.aV.length<=30:=by have:=ok.ct;omega
  exact q _ (.mZ p ts) B1 lo1 ad W1 H4 (.un Qp un) ⟨tl,tv,rfl,Rm,L_,(un.good ok ps Es).ln⟩ bD ja lN R4 F4
 refine bY (bO gn) ⟨λσ2 H2=>∃μ',μ'<st.toNat/\inv μ' σ2 H2,λ_ _ h=>h,?_⟩
 obtain⟨x,rx,hx⟩:=By (xs:=B1.aU) (k:=st) (by have:=tg.tt true;have:=Em true;have:=tg.s1;show st<=ed (B1.at true);omega) gn
 obtain⟨y,ry,hy⟩:=By (xs:=B1.aV) (k:=st) (by have:=tg.tt false;have:=Em false;have:=tg.s1;show st<=ed (B1.at false);omega) gn
 have mx:x∈B1.at true:=by show x∈B1.aU;rw[hx];exact bA
 have my:y∈B1.at false:=by show y∈B1.aV;rw[hy];exact bA
 have bx:=bD.sd true x mx
 have nA:=bD.sd false y my
 have xq:x.num≠y.num:=bD.nx x mx y my
 have px:=tg.ps.ps _ x mx
 have py:=tg.ps.ps _ y my
 have Ac:x.er∈W1.es:=ja.in.mpr ⟨x,dU.mpr ⟨_,mx⟩,rfl⟩
 have Ff:y.er∈W1.es:=ja.in.mpr ⟨y,dU.mpr ⟨_,my⟩,rfl⟩
 refine(rX rfl ⟨wa,lo1,ad,W1,true,rfl,R4,λx hx=>(lN.lt x hx).1,lN.nd,λl5 ss5 H5 s5 _ EK hs5 Et=>?_⟩)
 obtain rfl:=ja.side bD EK hs5
 have Et:H5 l5=some (.lst (V.ref (ad x.num)::(rx.map Ent.er).map λe=>V.ref (ad e.num))):=by rw[Et];show some (HO.lst ((B1.aU.map Ent.er).map _))=_;rw[hx];rfl
 refine⟨l5,_,0,_,rfl,rfl,aK.of Et,bf (j:=0) rfl,?_⟩
 have R5:=R4.same s5
 refine(rX rfl ⟨wa,lo1,ad,W1,false,rfl,R5,λx hx=>(lN.lt x hx).1,lN.nd,λl6 ss6 H6 s6 _ EL nV wx=>?_⟩)
 obtain rfl:=ja.side bD EL nV
 have wx:H6 l6=some (.lst (V.ref (ad y.num)::(ry.map Ent.er).map λe=>V.ref (ad e.num))):=by rw[wx];show some (HO.lst ((B1.aV.map Ent.er).map _))=_;rw[hy];rfl
 refine⟨l6,_,0,_,rfl,rfl,aK.of wx,bf (j:=0) rfl,?_⟩
 have xJ:=s5.trans s6
 have R6:=R4.same xJ
 have Ay:=(R6.o x.er Ac).1
 have Az:=(R6.o y.er Ff).1
 have Ay:H6 (ad x.num)=some (.dK (oD x.er)):=Ay
 have Az:H6 (ad y.num)=some (.dK (oD y.er)):=Az
 refine(rX rfl (rX rfl ⟨ad x.num,rX rfl ⟨cg Ay rfl,rX rfl ⟨ad y.num,rX rfl ⟨cg Az rfl,st,x.left,y.left,rfl,?_⟩⟩⟩⟩))
 rw[acW x.left y.left st]
 have xf:=eT.snoc met gn hx hy
 obtain⟨k1',k2',k3'⟩:=Oe x.left y.left st
 have kk0:1<=fz x.left y.left st:=Od (by omega) (by omega) (by omega)
 generalize fz x.left y.left st=kq at*
 have Qx:=xJ _ _ Zy
 have qS:=xJ _ _ Rm
 refine(rX rfl (rX rfl (r2 rfl rfl ?_)))
 have ZW:tv.length<sizeLine:=by
  have z1:=Paired.len L_
  have z2:=tg.ln
  have z3:ed (B.il.at true)<=10000*(B.at true).length:=zjh ps true
  have z4:=Em true
  have z5:=m_ B true
  have z6:=ok.ct
  have z7:=tg.s0
  rw[a7]
  omega
 refine(rX rfl ⟨.inl ⟨rfl,_,aK.of qS⟩,rX rfl ⟨ad x.num,rX rfl ⟨cg Ay rfl,rX rfl ⟨ad y.num,rX rfl ⟨cg Az rfl,rX rfl (rT fa 0 rfl rfl (aM.of Qx) (bf (j:=0) rfl) (rX rfl ⟨dM 5 rfl,λt ht=>?_⟩))⟩⟩⟩⟩⟩)
 have s7:=aQ (o:=.tup [.str "trade",.int x.num,.int y.num,.int p,.int kq]) ht
 have zZ:=s7 _ _ qS
 refine⟨tl,tv,.ref t,rfl,rfl,zZ,ZW,?_⟩
 show oj _ _ _ _ (upd (upd H6 t (.tup [.str "trade",.int x.num,.int y.num,.int p,.int kq])) tl (.lst (tv++ [.ref t])))
 have R8:=(R6.same s7).other (o:=.lst (tv++ [.ref t])) SQ
 have ch:∀{z:ah} {xs:aa V},H6 z=some (.tup xs)->upd (upd H6 t (.tup [.str "trade",.int x.num,.int y.num,.int p,.int kq])) tl (.lst (tv++ [.ref t])) z=some (.tup xs):=λ{z xs} hz=>(aw λw=>by rw[w,qS]at hz;cases hz).trans (s7 _ _ hz)
 have Qy:=ch Qx
 have ht8:upd (upd H6 t (.tup [.str "trade",.int x.num,.int y.num,.int p,.int kq])) tl (.lst (tv++ [.ref t])) t=some (.tup [.str "trade",.int x.num,.int y.num,.int p,.int kq]):=(aw λw=>by rw[w,qS]at ht;cases ht).trans aB
 have ly:upd (upd H6 t (.tup [.str "trade",.int x.num,.int y.num,.int p,.int kq])) tl (.lst (tv++ [.ref t])) tl=some (.lst (tv++ [.ref t])):=aB
 have tv8:oZ p (upd (upd H6 t (.tup [.str "trade",.int x.num,.int y.num,.int p,.int kq])) tl (.lst (tv++ [.ref t]))) tv ts:=Paired.eJ L_ λv tt ⟨z,h1,h2⟩=>⟨z,h1,ch (xJ _ _ h2)⟩
 have RT:∀z o,H4 z=some o->z≠tl->upd (upd H6 t (.tup [.str "trade",.int x.num,.int y.num,.int p,.int kq])) tl (.lst (tv++ [.ref t])) z=some o:=λz o hz hn=>(aw hn).trans (s7 _ _ (xJ _ _ hz))
 generalize upd (upd H6 t (.tup [.str "trade",.int x.num,.int y.num,.int p,.int kq])) tl (.lst (tv++ [.ref t]))=H8 at*
 refine(rX rfl (rT fa 0 rfl rfl (aM.of Qy) (bf (j:=0) rfl) (rX rfl ⟨wa,rX rfl ⟨eS.k (k:=Sum.inr "last") R8.w (j4 6 (by decide)),?_⟩⟩)))
 rw[show V.int p=oV (some p)from rfl,Vp]
 have R9:=R8.lJ (W':={W1 with last:=some p}) rfl
 generalize YV:upd H8 wa (.dK ({W1 with last:=some p}.dat lo1))=H9 at*
 refine(rX rfl ⟨wa,rX rfl ⟨R9.wg (Mm _ _),rX rfl (r2 rfl rfl (rX rfl ⟨wa,rX rfl ⟨eS.k (k:=Sum.inr "volume") R9.w (j4 6 (by decide)),?_⟩⟩))⟩⟩)
 rw[Vx]
 have vq:=R9.lJ (W':={W1 with last:=some p,bE:=W1.bE+kq}) rfl
 have Ag:∀z o,H8 z=some o->z≠wa->upd H9 wa (.dK ({W1 with last:=some p,bE:=W1.bE+kq}.dat lo1)) z=some o:=λz o hz hn=>by
  rw[aw hn,<-YV,aw hn]
  exact hz
 generalize upd H9 wa (.dK ({W1 with last:=some p,bE:=W1.bE+kq}.dat lo1))=sO at*
 obtain⟨Wn,tq⟩:∃Wn:Ws,Wn={W1 with last:=some p,bE:=W1.bE+kq}:=⟨_,rfl⟩
 rw[<-tq]at vq
 have sW:Wn.es=W1.es:=by rw[tq]
 have FK:(Wn.es.map (·.num)).Nodup:=by rw[sW];exact ja.nd bD
 have wpn:Wp Wn:=by rw[tq];exact⟨lN.z,lN.lt,lN.nd⟩
 have S1:∀z,cf wa lo1 ad Wn z->cf wa lo1 ad W1 z:=by rw[tq];exact λz h=>h
 have WY:cM wa H lo ad W sO lo1 ad Wn:=by
  have no1:∀z o,H z=some o->¬cf wa lo ad W z->¬cf wa lo1 ad W1 z:=λz o hz hn w=>by
   rcases F4.ft z w with w|w
   ·exact hn w
   ·rw[hz]at w;cases w
  refine⟨λz o hz hn=>Ag _ _ (RT _ _ (F4.kp z o hz hn) λw=>by rw[w,kY]at hz;cases hz) λw=>no1 z o hz hn (.inl w),λz hz=>F4.ft z (S1 z hz),λz xs hz=>Ag _ _ (RT _ _ (F4.li z xs hz) λw=>by rw[w,kY]at hz;cases hz) λw=>?_⟩
  exact lY R4.w (F4.li z xs hz) w.symm
 refine(rX rfl (rX rfl ⟨dM 2 rfl,λpt wL=>⟨pt,rfl,⟨_,aM.of aB⟩,?_⟩⟩))
 have kE:=aQ (o:=.tup [.ref (ad x.num),.ref (ad y.num)]) wL
 have Q7:upd sO pt (.tup [.ref (ad x.num),.ref (ad y.num)]) pt=some (.tup [.ref (ad x.num),.ref (ad y.num)]):=aB
 have vt:=vq.same kE
 have WZ:=WY.trans (cM.same kE)
 have nw:∀{z:ah} {xs:aa V},H8 z=some (.tup xs)->z≠wa:=λ{z xs} hz w=>by rw[w,R8.w]at hz;cases hz
 have L7:∀{z:ah} {xs:aa V},H8 z=some (.tup xs)->upd sO pt (.tup [.ref (ad x.num),.ref (ad y.num)]) z=some (.tup xs):=λ{z xs} hz=>kE _ _ (Ag _ _ hz (nw hz))
 have zY:=kE _ _ (Ag _ _ ly λw=>lY R8.w ly w.symm)
 have adl:¬cf wa lo1 ad Wn tl:=λz=>SQ (S1 _ z)
 have Zx:=L7 Qy
 have EZ:=L7 ht8
 have ag5:oZ p (upd sO pt (.tup [.ref (ad x.num),.ref (ad y.num)])) tv ts:=Paired.eJ tv8 λv tt ⟨z,h1,h2⟩=>⟨z,h1,L7 h2⟩
 generalize upd sO pt (.tup [.ref (ad x.num),.ref (ad y.num)])=vh at*
 obtain⟨Wj,DW⟩:∃Wj:Nat->Ws,Wj=λj=>if j=0 then Wn else if j=1 then Wn.aP x.er kq else(Wn.aP x.er kq).aP y.er kq:=⟨_,rfl⟩
 have yW:Wj 0=Wn:=by rw[DW];rfl
 have CF:Wj 1=Wn.aP x.er kq:=by rw[DW];rfl
 have O5:Wj 2=(Wn.aP x.er kq).aP y.er kq:=by rw[DW];rfl
 refine NT (K:=K) (a:=pt) (xs:=[.ref (ad x.num),.ref (ad y.num)]) (λj σ H'=>∃(cj:ah) (z7:ae V),σ= [some (.ref wa),some (.ref fa),some (.ref tl),some (.int (st-kq)),some (.ref (ad x.num)),some (.ref (ad y.num)),some (.int kq),z7]/\bP H' wa cj ad (Wj j)/\cM wa vh lo1 ad Wn H' cj ad (Wj j))
  ⟨lo1,_,rfl,by rw[yW];exact vt,by rw[yW];exact cM.refl⟩ (λj σ H' _ h=>?_) ?_ ?_
 ·obtain⟨_,_,_,_,F'⟩:=h
  exact aM.of (F'.kp _ _ Q7 (yo vt Q7))
 ·rintro j v σ H' hj ⟨cj,z7,rfl,R',F'⟩
  obtain⟨z,hv,hz,hW⟩:∃z:Ent,v= .ref (ad z.num)/\z∈(Wj j).es/\Wj (j+1)=(Wj j).aP z kq:=by
   rcases j with _|_|j
   ·exact⟨x.er,(cq hj).symm,by rw[yW,sW];exact Ac,by rw[CF,yW]⟩
   ·exact⟨y.er,(cq hj).symm,by rw[CF];exact WI (x:=x.er) (y:=y.er) FK (by rw[sW];exact Ac) (by rw[sW];exact Ff) (λw=>xq w.symm) kq,by rw[O5,CF]⟩
   ·simp at hj
  subst hv
  rw[hW]
  generalize Wj j=Wc at*
  obtain⟨Q3,nzw⟩:=R'.o z hz
  refine(rX rfl ⟨ad z.num,rX rfl ⟨cg Q3 rfl,rX rfl (r2 rfl rfl (rX rfl ⟨ad z.num,rX rfl ⟨eS.k (k:=Sum.inr "left") Q3 (j4 8 (by decide)),?_⟩⟩))⟩⟩)
  rw[MZ]
  refine(rX rfl ⟨ad z.num,oD {z with left:=z.left-kq},z.left-kq,z.shows,rfl,aB,by show 8<=20;decide,rfl,rfl,?_⟩)
  rw[fb,zjE]
  obtain⟨O2,vg⟩:=R'.row (e':=z.as (z.left-kq) (cp z.shows (z.left-kq))) hz rfl
  have Q4:upd H' (ad z.num) (.dK (oD (z.as (z.left-kq) (cp z.shows (z.left-kq))))) (ad z.num)=some (.dK (oD (z.as (z.left-kq) (cp z.shows (z.left-kq))))):=aB
  generalize upd H' (ad z.num) (.dK (oD (z.as (z.left-kq) (cp z.shows (z.left-kq)))))=H12 at*
  refine(rX rfl ⟨ad z.num,rX rfl ⟨cg Q4 rfl,rfl,rX rfl ?_⟩⟩)
  by_cases h0:z.left-kq=0
  ·have Ex:Wc.aP z kq=Ws.gone {Wc with es:=bX Wc.es (z.as (z.left-kq) (cp z.shows (z.left-kq)))} z.num:=by unfold Ws.aP;rw[aA h0]
   rw[Ex]
   exact bY (bO (by show V.int (z.left-kq)=V.int 0;rw[h0])) (rX rfl (rX rfl ⟨ad z.num,rX rfl ⟨cg Q4 rfl,wa,cj,ad,_,z.num,rfl,O2,λacC kP Xc WX akk=>⟨acC,rX rfl ⟨Xc,F'.trans (vg.trans WX)⟩⟩⟩⟩))
  ·have Ex:Wc.aP z kq={Wc with es:=bX Wc.es (z.as (z.left-kq) (cp z.shows (z.left-kq)))}:=by unfold Ws.aP;rw[ax h0]
   rw[Ex]
   exact bj (cW λw=>h0 (by injection w)) ⟨cj,_,rfl,O2,F'.trans vg⟩
 ·rintro σ H' ⟨cj,z7,rfl,R',F'⟩
  have R':bP H' wa cj ad (Wj 2):=R'
  have F':cM wa vh lo1 ad Wn H' cj ad (Wj 2):=F'
  rw[O5]at R' F'
  have fS:=uQ (b:=true) bD hx
  have t4:y∈(B1.aP x kq).at y.au:=by
   rw[nA]
   have:=x_ (B:=B1) (e:=x) kq
   rw[bx]at this
   rw[show(B1.aP x kq).at false=B1.at false from this]
   exact my
  have wbl:=((ja.aP bD fS kq).aP (bD.aP x kq) t4 kq).fA p kq
  have eW:(Wn.aP x.er kq).aP y.er kq={(W1.aP x.er kq).aP y.er kq with last:=some p,bE:=((W1.aP x.er kq).aP y.er kq).bE+kq}:=by
   rw[tq,M5,M5,WH,WH]
  have wpl:Wp ((Wn.aP x.er kq).aP y.er kq):=by
   have RE:x.er∈Wn.es:=by rw[sW];exact Ac
   have h1:=wpn.aP FK RE kq
   refine h1.aP ?_ (WI (x:=x.er) (y:=y.er) FK RE (by rw[sW];exact Ff) (λw=>xq w.symm) kq) kq
   have h2:=(ja.aP bD fS kq).nd (bD.aP x kq)
   rw[tq,M5]
   exact h2
  have L8:∀{z:ah} {xs:aa V},vh z=some (.tup xs)->H' z=some (.tup xs):=λ{z xs} hz=>F'.kp _ _ hz (yo vt hz)
  refine⟨(st-kq).toNat,by omega,?_⟩
  rw[hinv]
  refine⟨ts++ [(x.num,y.num,kq)],_,st-kq,(Wn.aP x.er kq).aP y.er kq,cj,tv++ [.ref t],_,_,_,_,rfl,xf,by rw[eW];exact wbl,wpl,R',F'.li _ _ zY,λz=>?_,Paired.snoc ⟨t,rfl,L8 EZ⟩ (Paired.eJ ag5 λv tt ⟨z,h1,h2⟩=>⟨z,h1,L8 h2⟩),L8 Zx,WZ.trans F',rfl⟩
  rcases F'.ft tl z with z|z
  ·exact adl z
  ·rw[zY]at z
   cases z
end
end Fb
namespace L2
open PySem PySem.Spec PyProof.Rows
theorem zi4{σ0:St}{xs:aa V}{g:TG}{te:TE}{G:ah->aa V->Hp->Prop}(hS:aK K H a xs)(hlen:xs.length=ys.length)(hl:ys.length<=sizeLine)
  (hs:∀(i:Nat) (x y:V),xs[i]?=some x->ys[i]?=some y->∀R1:V->Hp->Prop,R1 y H->g x σ0 H λσ2 H2=>te σ2 H2 R1)
  (hg:∀x σ H (R R':St->Hp->Prop),(∀σ H,R σ H->R' σ H)->g x σ H R->g x σ H R') (hq:∀p,H p=none->G p ys H):
  ∃W:Nat->Nat->aa V->Hp->Prop,(∃m,W 0 m [] H)/\∀i m ys H,W i m ys H->ys.length<=sizeLine/\
   (((fZ K a).stop i H/\∀p,H p=none->G p ys H)\/
    ((fZ K a).go i H/\∀x H',(fZ K a).kF i H x H'->g x σ0 H' λσ2 H2=>jy σ2 H2 λb H3=>if b=true then te σ2 H3 λy H4=>∃m',m'<m/\W (i+1) m' (ys++ [y]) H4 else ∃m',m'<m/\W (i+1) m' ys H3)):=by
 refine⟨λi m zs H'=>H'=H/\i<=xs.length/\m=xs.length-i/\zs=ys.take i,(rX rfl ⟨dD _,rfl,by simp⟩),?_⟩
 rintro i m zs H' ⟨rfl,hi,rfl,rfl⟩
 refine⟨eA (by rw[iT];omega) hl,?_⟩
 by_cases bq:i<xs.length
 ·refine .inr ⟨⟨xs,xs[i],hS,by simp[bq]⟩,λx kP hy=>?_⟩
  obtain⟨e,hx⟩:=hy
  subst e
  have hx:=hx xs hS
  have ZJ:i<ys.length:=by omega
  have ey:ys[i]?=some ys[i]:=jF ZJ
  refine hg _ _ _ _ _ (λσ2 H2 h=>?_) (hs i x ys[i] hx ey (λy H4=>∃m',m'<xs.length-i/\H4=kP/\i+1<=xs.length/\m'=xs.length- (i+1)/\ys.take i++ [y]=ys.take (i+1)) ⟨_,by omega,rfl,bq,rfl,?_⟩)
  ·dsimp only[jy]
   rw[aA rfl]
   exact h
  ·rw[sD,ey]
   rfl
 ·have e:i=xs.length:=by omega
  subst e
  refine .inl ⟨⟨xs,hS,bu _⟩,λp hp=>?_⟩
  rw[hlen,kL]
  exact hq p hp
end L2
namespace Fb
open PySem L2
open PySem.W (Dat kqdOk)
noncomputable def Ev.dat:Ev->Dat
 | .out n=>.tuple [.str "out",.int n]
 | .ip n p k=>.tuple [.str "trade",.int n,.int p,.int k]
noncomputable def uT(p:Int)(t:Int×Int×Int):Dat:=.tuple [.str "trade",.int t.1,.int t.2.1,.int p,.int t.2.2]
theorem NU:∀{ts:aa V} {aS:aa Ev},oN H ts aS->ji K H ts (aS.map Ev.dat)
 |_,_,.nil=>.nil
 |_,_,.cons (b:=ev) ⟨t,ht,h⟩ r=>by
  subst ht
  refine .cons ?_ (NU r)
  cases ev with
  |out n=>exact .tup (aM.of h) (.cons (.str _) (.cons (.int _) .nil))
  |ip n p k=>exact .tup (aM.of h) (.cons (.str _) (.cons (.int _) (.cons (.int _) (.cons (.int _) .nil))))
theorem NY:∀{tv:aa V} {ts:aa (Int×Int×Int)},oZ p H tv ts->ji K H tv (ts.map (uT p))
 |_,_,.nil=>.nil
 |_,_,.cons ⟨t,ht,h⟩ r=>by
  subst ht
  exact .cons (.tup (aM.of h) (.cons (.str _) (.cons (.int _) (.cons (.int _) (.cons (.int _) (.cons (.int _) .nil)))))) (NY r)
theorem Nq:∀ns:aa Int,ji K H (ns.map V.int) (ns.map Dat.int)
 | []=>.nil
 |n::r=>.cons (.int n) (Nq r)
theorem Oo:PyData.strOk ("out":Str)=true/\PyData.strOk ("trade":Str)=true/\PyData.strOk ("bad":Str)=true/\PyData.strOk ("none":Str)=true/\PyData.strOk ("now":Str)=true/\PyData.strOk ("wrong":Str)=true:=by decide+kernel
theorem Yr(n:Nat)(ev:Ev):kqdOk (n+1) ev.dat=true:=by
 cases ev with
 |out k=>simp[Ev.dat,kqdOk,Oo]
 |ip k p j=>simp[Ev.dat,kqdOk,Oo]
theorem ag2(n:Nat)(p:Int)(t:Int×Int×Int):kqdOk (n+1) (uT p t)=true:=by
 simp[uT,kqdOk,Oo]
theorem BE{ds:aa Dat}(n:Nat)(h:∀x∈ds,kqdOk n x=true):kqdOk (n+1) (.list ds)=true:=by
 show ds.all (kqdOk n)=true
 exact List.all_eq_true.mpr h
theorem WS(n:Nat)(ns:aa Int):kqdOk (n+1) (.list (ns.map Dat.int))=true:=BE n λx hx=>by
 obtain⟨i,_,rfl⟩:=u4.mp hx
 cases n<;>rfl
theorem Rep.off(R:Rep c H g B){O:ah->Prop}(hO:∀x,O x->(∃u,H x=some u/\kd u=6)/\¬bI g B x/\x≠g.ds)(k:∀x o,H x=some o->¬O x->H' x=some o):Rep c H' g B:=by
 have nk:∀{x:ah} {o:HO} (i:Nat),H x=some o->kd o=i->i≠6->H' x=some o:=λ{x o} i hx hi h6=>k x o hx λz=>by
  obtain⟨⟨u,hu,h6'⟩,_⟩:=hO x z
  rw[hx]at hu
  obtain rfl:=cq hu
  omega
 obtain⟨⟨d1,r1⟩,⟨d2,r2⟩,r3,r4,r5,r6,⟨kvs,r7,r8,r9,ra,rb⟩,rc⟩:=R
 refine⟨⟨d1,nk 3 r1 rfl (by decide)⟩,⟨d2,nk 4 r2 rfl (by decide)⟩,k _ _ r3 λz=>(hO _ z).2.2 rfl,λb=>nk 5 (r4 b) rfl (by decide),r5,r6,⟨kvs,k _ _ r7 λz=>(hO _ z).2.1 (.inr (.inr (.inr (.inr (.inl rfl))))),r8,r9,ra,rb⟩,λb x hx=>?_⟩
 obtain⟨⟨dx,en⟩,⟨dy,od⟩,rk⟩:=rc b x hx
 exact⟨⟨dx,nk 1 en rfl (by decide)⟩,⟨dy,nk 2 od rfl (by decide)⟩,nk 7 rk rfl (by decide)⟩
structure vi(K:W.Frag):Prop where
 ib:W.kitOne K (.type "int") (.type "bool")=some false
 it:W.kitOne K (.type "int") (.type "tuple")=some false
 sb:W.kitOne K (.type "str") (.type "bool")=some false
 st:W.kitOne K (.type "str") (.type "tuple")=some false
 nb:W.kitOne K (.type "NoneType") (.type "bool")=some false
 nt:W.kitOne K (.type "NoneType") (.type "tuple")=some false
 bb:W.kitOne K (.type "bool") (.type "bool")=some true
 bt:W.kitOne K (.type "bool") (.type "tuple")=some false
 tb:W.kitOne K (.type "tuple") (.type "bool")=some false
 tt:W.kitOne K (.type "tuple") (.type "tuple")=some true
 lb:W.kitOne K (.type "list") (.type "bool")=some false
 lt:W.kitOne K (.type "list") (.type "tuple")=some false
noncomputable def sP(K:W.Frag)(H:Hp)(v u:V):Prop:=(v=u/\((∃i,v= .int i)\/v= .aE\/(∃b,v= .bl b)\/∃x,v= .str x))\/
 (∃a b dt,v= .ref a/\u= .ref b/\h_ K H v dt/\h_ K H u dt/\kqdOk 9 dt=true/\((∃xs ys,H a=some (.tup xs)/\H b=some (.tup ys))\/(∃xs ys,H a=some (.lst xs)/\H b=some (.lst ys))))
theorem sP.ty{u:V}(h:sP K H v u)(I:vi K):∃(t:af) (k1 k2:ai),iV K H v t/\iV K H u t/\W.kitOne K t (.type "bool")=some k1/\W.kitOne K t (.type "tuple")=some k2:=by
 rcases h with⟨rfl,h⟩ | ⟨a,b,dt,rfl,rfl,_,_,_,h⟩
 ·rcases h with⟨i,rfl⟩ |rfl| ⟨b,rfl⟩ | ⟨x,rfl⟩
  ·exact⟨_,_,_,.int i,.int i,I.ib,I.it⟩
  ·exact⟨_,_,_,.aE,.aE,I.nb,I.nt⟩
  ·exact⟨_,_,_,.bl b,.bl b,I.bb,I.bt⟩
  ·exact⟨_,_,_,.str x,.str x,I.sb,I.st⟩
 ·rcases h with⟨xs,ys,h1,h2⟩ | ⟨xs,ys,h1,h2⟩
  ·exact⟨_,_,_,.tup h1,.tup h2,I.tb,I.tt⟩
  ·exact⟨_,_,_,.lst h1,.lst h2,I.lb,I.lt⟩
theorem Xp{u:V}(h:qi H v f_)(h':qi H u ia)(hl:iU.rf f_ ia):sP K H v u:=by
 cases f_ with
 |str x=>
  have hl:iU.str x=ia:=by cases ia<;>exact hl
  subst hl
  exact .inl ⟨h.trans h'.symm,.inr (.inr (.inr ⟨x,h⟩))⟩
 |num k=>
  have hl:iU.num k=ia:=by cases ia<;>exact hl
  subst hl
  exact .inl ⟨h.trans h'.symm,.inl ⟨k,h⟩⟩
 |aE=>
  have hl:iU.aE=ia:=by cases ia<;>exact hl
  subst hl
  exact .inl ⟨h.trans h'.symm,.inr (.inl h)⟩
 |placed k aS=>
  have hl:iU.placed k aS=ia:=by cases ia<;>exact hl
  subst hl
  obtain⟨t,l,ts,rfl,h1,h2,h3,_⟩:=h
  obtain⟨t',l',iq,rfl,fR,gN,DS,_⟩:=h'
  refine .inr ⟨t,t',.tuple [.int k,.list (aS.map Ev.dat)],rfl,rfl,.tup (aM.of h1) (.cons (.int k) (.cons (.lst (aK.of h2) (NU h3)) .nil)),.tup (aM.of fR) (.cons (.int k) (.cons (.lst (aK.of gN) (NU DS)) .nil)),?_,.inl ⟨_,_,h1,fR⟩⟩
  have:kqdOk 8 (.list (aS.map Ev.dat))=true:=BE 7 λx hx=>by
   obtain⟨ev,_,rfl⟩:=u4.mp hx
   exact Yr 6 ev
  show [Dat.int k,.list (aS.map Ev.dat)].all (kqdOk 8)=true
  rw[List.all_cons,List.all_cons,this]
  rfl
 |mZ p ts=>
  cases ia with
  |mZ p' iq=>
   obtain⟨rfl,hp⟩:=hl
   obtain⟨l,tv,rfl,h1,h2,_⟩:=h
   obtain⟨l',tv',rfl,fR,gN,_⟩:=h'
   have e:ts.map (uT p')=ts.map (uT p):=by
    rcases hp with rfl|rfl
    ·rfl
    ·rfl
   have d2:=NY (K:=K) gN
   rw[e]at d2
   exact .inr ⟨l,l',.list (ts.map (uT p)),rfl,rfl,.lst (aK.of h1) (NY h2),.lst (aK.of fR) d2,BE 8 λx hx=>by
    obtain⟨t,_,rfl⟩:=u4.mp hx
    exact ag2 7 p t,.inr ⟨_,_,h1,fR⟩⟩
  |str _=>cases hl
  |num _=>cases hl
  |aE=>cases hl
  |placed _ _=>cases hl
section
variable {bW:ah} {a:c_} {n:fe} {u:fF} {e:gI} {r:iC}
theorem aeS:bc ["_law_found","_law_due"] ["_law_found","_law_due"] (aX OC):=bw
inductive afR(K:W.Frag)(vs:List V)(H:Hp)(Q:VK)(_:XK):Prop
 |mk (v u:_) (_:vs= [v,u]) (_:sP K H v u) (_:Q (.bl true) H)
theorem RL(L:nr K mg bo nt nn be e)(I:vi K)(Wt:eE K mg c r):Kp P w K mg base 1 r.is ["_law_found","_law_due"] (afR K):=Wt.is.kp λfd G=>by
 refine G.bT aeS λ_ _ _ _ _ _ _ _ hr h=>?_
 obtain⟨v,u,rfl,hv,q⟩:=h
 obtain⟨t,k1,k2,t1,t2,f1,f2⟩:=hv.ty I
 have z8:=hr.units
 rcases hv with⟨rfl,hv⟩ | ⟨a,b,dt,rfl,rfl,d1,d2,hk,_⟩
 ·refine⟨_,az (bK (PW.pt (jE (bC hX (c9 kH (by rfl) L.gi (by decide+kernel) (av (pv 0) (av (oG (v:=.ty "bool") (by rfl) L.vV (by decide+kernel) rfl) ay))) (c9 kH (by rfl) L.gi (by decide+kernel) (av (pv 1) (av (oG (v:=.ty "bool") (by rfl) L.vV (by decide+kernel) rfl) ay))) (a9 _))
    (jz (bC hX (c9 kH (by rfl) L.gi (by decide+kernel) (av (pv 0) (av (oG (v:=.ty "tuple") (by rfl) L.vW (by decide+kernel) rfl) ay))) (c9 kH (by rfl) L.gi (by decide+kernel) (av (pv 1) (av (oG (v:=.ty "tuple") (by rfl) L.vW (by decide+kernel) rfl) ay))) (a9 _))))) (aD (a8 iA)) bZ)
   (aD (a8 (je cQ (pv 0) (pv 1) (a9 _)))),?_⟩
  refine(rX rfl ⟨_,_,k1,rfl,rfl,.inl ⟨_,t1,f1⟩,rX rfl ⟨_,_,k1,rfl,rfl,.inl ⟨_,t2,f1⟩,rfl,rX rfl (bj (by simp) (rX rfl ⟨_,_,k2,rfl,rfl,.inl ⟨_,t1,f2⟩,rX rfl ⟨_,_,k2,rfl,rfl,.inl ⟨_,t2,f2⟩,rfl,rX rfl (bj (by simp) (rX rfl (rX rfl ?_)))⟩⟩))⟩⟩)
  rcases hv with⟨i,rfl⟩ |rfl| ⟨x,rfl⟩ | ⟨x,rfl⟩
  ·exact⟨rfl,by rw[bO rfl];exact q⟩
  ·exact⟨rfl,by rw[bO rfl];exact q⟩
  ·exact⟨rfl,by rw[bO rfl];exact q⟩
  ·exact⟨rfl,by rw[bO rfl];exact q⟩
 ·refine⟨_,az (bK (PW.pt (jE (bC hX (c9 kH (by rfl) L.gi (by decide+kernel) (av (pv 0) (av (oG (v:=.ty "bool") (by rfl) L.vV (by decide+kernel) rfl) ay))) (c9 kH (by rfl) L.gi (by decide+kernel) (av (pv 1) (av (oG (v:=.ty "bool") (by rfl) L.vV (by decide+kernel) rfl) ay))) (a9 _))
    (jz (bC hX (c9 kH (by rfl) L.gi (by decide+kernel) (av (pv 0) (av (oG (v:=.ty "tuple") (by rfl) L.vW (by decide+kernel) rfl) ay))) (c9 kH (by rfl) L.gi (by decide+kernel) (av (pv 1) (av (oG (v:=.ty "tuple") (by rfl) L.vW (by decide+kernel) rfl) ay))) (a9 _))))) (aD (a8 iA)) bZ)
   (aD (a8 (je (adB z8) (pv 0) (pv 1) (a9 _)))),?_⟩
  refine(rX rfl ⟨_,_,k1,rfl,rfl,.inl ⟨_,t1,f1⟩,rX rfl ⟨_,_,k1,rfl,rfl,.inl ⟨_,t2,f1⟩,rfl,rX rfl (bj (by simp) (rX rfl ⟨_,_,k2,rfl,rfl,.inl ⟨_,t1,f2⟩,rX rfl ⟨_,_,k2,rfl,rfl,.inl ⟨_,t2,f2⟩,rfl,rX rfl (bj (by simp) (rX rfl (rX rfl ⟨dt,dt,d1,d2,hk,hk,λk hk=>?_⟩)))⟩⟩))⟩⟩)
  have:k=true:=hk.mpr rfl
  rw[this]
  exact q
end
open PySem L2
section
variable {bW:ah} {a:c_} {n:fe} {u:fF} {e:gI} {r:iC}
theorem aeL:bc ["_law_world","_law_deed_here"] ["_law_world","_law_deed_here"] (aX NJ):=bw
inductive afG(vs:List V)(H:Hp)(Q:VK)(_:XK):Prop
 |mk (wa lo:Addr) (ad:Int->Addr) (W:Ws) (B:Bk) (t:Addr) (dd:Dd) (_:vs= [.ref wa,.ref t]) (_:bP H wa lo ad W) (_:WB W B) (_:B.Ok) (_:B.Pos) (_:B.aG<=30) (_:Wp W) (_:H t=some (.tup dd.vals)) (_:dd.Ok) (_:uR H wa lo ad W B dd Q)
theorem abD(C:bR K mg c)(Z:jL mg)(Wt:eE K mg c r):Kp P w K mg base 5 r.done ["_law_world","_law_deed_here"] afG:=Wt.done.kp λfd G=>by
 obtain⟨cK,G1,b1,k1⟩:=abV (P:=P) (w:=w) (base:=base) C Z Z.sum Wt
 obtain⟨dG,G2,b2,k2⟩:=abw (P:=P) (w:=w) (base:=base) Wt
 obtain⟨gY,G3,b3,k3⟩:=abz (P:=P) (w:=w) (base:=base) C Wt
 obtain⟨kX,G4,b4,k4⟩:=abu (P:=P) (w:=w) (base:=base) Wt
 obtain⟨mh,G5,b5,k5⟩:=zkm (P:=P) (w:=w) (base:=base) C Z Wt
 refine G.bT aeL λ_ _ _ _ H _ _ _ hr h=>?_
 obtain⟨wa,lo,ad,W,B,t,dd,rfl,R,wb,ok,ps,mr,wp,ht,dY,q⟩:=h
 have b_:bB 1 _:=hr.mono (by decide)
 have di:bB 2 _:=hr.mono (by decide)
 have tN:bB 3 _:=hr.mono (by decide)
 refine⟨_,az (bK (bC cQ (cv (r:=dC K) dI (pv 1) aF (λ_ _=>rfl)) aJ (a9 _)) (aD (a8 (bG G1 hr Wt.vS k1 b1 (rn (pv 0) (jV (cv (r:=dC K) dI (pv 1) aF (λ_ _=>rfl)) (jV (cv (r:=dC K) dI (pv 1) aF (λ_ _=>rfl)) (jV (cv (r:=dC K) dI (pv 1) aF (λ_ _=>rfl)) (jV (cv (r:=dC K) dI (pv 1) aF (λ_ _=>rfl)) (jV (cv (r:=dC K) dI (pv 1) aF (λ_ _=>rfl)) (jV (cv (r:=dC K) dI (pv 1) aF (λ_ _=>rfl)) ay)))))))))) bZ)
  (az (bK (bC cQ (cv (r:=dC K) dI (pv 1) aF (λ_ _=>rfl)) aJ (a9 _)) (aD (a8 (bG G2 di Wt.vO k2 b2 (av (pv 0) (av (cv (r:=dC K) dI (pv 1) aF (λ_ _=>rfl)) ay))))) bZ)
  (az (bK (bC cQ (cv (r:=dC K) dI (pv 1) aF (λ_ _=>rfl)) aJ (a9 _)) (aD (a8 (bG G3 tN Wt.vP k3 b3 (av (pv 0) (av (cv (r:=dC K) dI (pv 1) aF (λ_ _=>rfl)) (av (cv (r:=dC K) dI (pv 1) aF (λ_ _=>rfl)) ay)))))) bZ)
  (az (bK (bC cQ (cv (r:=dC K) dI (pv 1) aF (λ_ _=>rfl)) aJ (a9 _)) (aD (a8 (bG G4 b_ Wt.vL k4 b4 (av (pv 0) ay)))) bZ)
  (aD (a8 (bG G5 hr Wt.vU k5 b5 (av (pv 0) ay))))))),?_⟩
 cases dd with
 |pl ow b pr many shows way=>
  have ht:H t=some (.tup [.str "place",.int ow,.str (aH b),oV pr,.int many,oV shows,.str way]):=ht
  refine(rX rfl (rT t 0 rfl rfl (aM.of ht) (bf (j:=0) rfl) ⟨rfl,rX rfl (bY rfl (rX rfl (rX rfl (rT t 1 rfl rfl (aM.of ht) (bf (j:=1) rfl) (rX rfl (rT t 2 rfl rfl (aM.of ht) (bf (j:=2) rfl) (rX rfl (rT t 3 rfl rfl (aM.of ht) (bf (j:=3) rfl) (rX rfl (rT t 4 rfl rfl (aM.of ht) (bf (j:=4) rfl) (rX rfl (rT t 5 rfl rfl (aM.of ht) (bf (j:=5) rfl) (rX rfl (rT t 6 rfl rfl (aM.of ht) (bf (j:=6) rfl) ⟨wa,lo,ad,W,B,ow,b,pr,many,shows,way,rfl,R,wb,ok,ps,mr,wp,dY,q⟩))))))))))))))⟩))
 |ca k j=>
  have ht:H t=some (.tup [.str "cancel",.int k,.int j]):=ht
  refine(rX rfl (rT t 0 rfl rfl (aM.of ht) (bf (j:=0) rfl) ⟨rfl,rX rfl (bj rfl (rX rfl (rT t 0 rfl rfl (aM.of ht) (bf (j:=0) rfl) ⟨rfl,rX rfl (bY rfl (rX rfl (rX rfl (rT t 1 rfl rfl (aM.of ht) (bf (j:=1) rfl) ⟨wa,lo,ad,W,B,k,j,rfl,R,wb,ok,wp,q⟩))))⟩)))⟩))
 |ch k j=>
  have ht:H t=some (.tup [.str "change",.int k,.int j]):=ht
  refine(rX rfl (rT t 0 rfl rfl (aM.of ht) (bf (j:=0) rfl) ⟨rfl,rX rfl (bj rfl (rX rfl (rT t 0 rfl rfl (aM.of ht) (bf (j:=0) rfl) ⟨rfl,rX rfl (bj rfl (rX rfl (rT t 0 rfl rfl (aM.of ht) (bf (j:=0) rfl) ⟨rfl,rX rfl (bY rfl (rX rfl (rX rfl (rT t 1 rfl rfl (aM.of ht) (bf (j:=1) rfl) (rX rfl (rT t 2 rfl rfl (aM.of ht) (bf (j:=2) rfl) ⟨wa,lo,ad,W,B,k,j,rfl,R,wb,ok,ps,mr,wp,q⟩))))))⟩)))⟩)))⟩))
 |cl us=>
  have ht:H t=some (.tup (.str "call"::us)):=ht
  refine(rX rfl (rT t 0 rfl rfl (aM.of ht) (bf (j:=0) rfl) ⟨rfl,rX rfl (bj rfl (rX rfl (rT t 0 rfl rfl (aM.of ht) (bf (j:=0) rfl) ⟨rfl,rX rfl (bj rfl (rX rfl (rT t 0 rfl rfl (aM.of ht) (bf (j:=0) rfl) ⟨rfl,rX rfl (bj rfl (rX rfl (rT t 0 rfl rfl (aM.of ht) (bf (j:=0) rfl) ⟨rfl,rX rfl (bY rfl (rX rfl ⟨wa,lo,ad,W,B,us,rfl,R,wb,ok,wp,q⟩))⟩)))⟩)))⟩)))⟩))
 |un k j=>
  have ht:H t=some (.tup [.str "uncross",.int k,.int j]):=ht
  refine(rX rfl (rT t 0 rfl rfl (aM.of ht) (bf (j:=0) rfl) ⟨rfl,rX rfl (bj rfl (rX rfl (rT t 0 rfl rfl (aM.of ht) (bf (j:=0) rfl) ⟨rfl,rX rfl (bj rfl (rX rfl (rT t 0 rfl rfl (aM.of ht) (bf (j:=0) rfl) ⟨rfl,rX rfl (bj rfl (rX rfl (rT t 0 rfl rfl (aM.of ht) (bf (j:=0) rfl) ⟨rfl,rX rfl (bj rfl (rX rfl ⟨wa,lo,ad,W,B,k,j,rfl,R,wb,ok,ps,mr,wp,q⟩))⟩)))⟩)))⟩)))⟩))
end
open PySem L2
noncomputable def gu(xs:aa Ent):aa (Int×Int):=xs.map λe=>(e.ar,e.shown)
noncomputable def dZ:ae Int->aa Ent->aa Int
 |_,[]=>[]
 |pv,e::r=>if pv=some e.ar then dZ (some e.ar) r else e.ar::dZ (some e.ar) r
noncomputable def j8:ae Int->aa Ent->ae Int
 |pv,[]=>pv
 |_,e::r=>j8 (some e.ar) r
theorem Nr(e:Ent):∀(xs:aa Ent) (pv:ae Int),dZ pv (xs++ [e])=dZ pv xs++(if j8 pv xs=some e.ar then []else [e.ar])
 | [],pv=>by
  show(if pv=some e.ar then dZ (some e.ar) []else e.ar::dZ (some e.ar) [])= []++_
  rw[List.nil_append]
  rfl
 |x::r,pv=>by
  have ih:=Nr e r (some x.ar)
  show(if pv=some x.ar then dZ (some x.ar) (r++ [e])else x.ar::dZ (some x.ar) (r++ [e]))=(if pv=some x.ar then dZ (some x.ar) r else x.ar::dZ (some x.ar) r)++(if j8 (some x.ar) r=some e.ar then []else [e.ar])
  rw[ih]
  split<;>rfl
theorem VY:∀{xs:aa Ent} {pv:ae Int},j8 pv xs=some p->pv=some p\/∃e∈xs,e.ar=p
 | [],pv,h=>.inl h
 |x::r,pv,h=>by
  rcases VY (xs:=r) h with z| ⟨e,he,z⟩
  ·exact .inr ⟨x,bA,cq z⟩
  ·exact .inr ⟨e,cE _ he,z⟩
theorem U7:∀{xs:aa Ent} {pv:ae Int} {i:Nat} {y:Ent},xs[i]?=some y->xs.length=i+1->j8 pv xs=some y.ar
 | [],_,_,_,h,_=>by simp at h
 | [x],_,i,y,h,hl=>by
  have:i=0:=by simpa using hl.symm
  subst this
  have:x=y:=by simpa using h
  rw[this]
  rfl
 |x::z::r,_,i,y,h,hl=>by
  obtain⟨j,rfl⟩:∃j,i=j+1:=⟨r.length,by simp at hl;omega⟩
  exact U7 (xs:=z::r) (pv:=some x.ar) (i:=j) (by simpa using h) (by simp at hl ⊢;omega)
theorem U6:∀{xs:aa Ent} {pv:ae Int},eN (xs++ [e])->(∀x∈xs++ [e],x.au=b)->(∃x∈xs,x.ar=e.ar)->j8 pv xs=some e.ar
 | [],_,_,_,⟨x,h,_⟩=>by simp at h
 | [y],_,_,_,⟨x,h,hp⟩=>by
  rw[List.mem_singleton.mp h]at hp
  show some y.ar=_
  rw[hp]
 |y::z::r,pv,so,sd,⟨x,h,hp⟩=>by
  have TF:eN ((z::r)++ [e]):=(List.pairwise_cons.mp so).2
  show j8 (some y.ar) (z::r)=some e.ar
  refine U6 (pv:=some y.ar) (xs:=z::r) TF (λx hx=>sd x (cE _ hx)) ?_
  rcases hZ.mp h with rfl|h
  ·refine⟨z,bA,?_⟩
   have h1:x.lt z:=(List.pairwise_cons.mp so).1 z (bA)
   have h2:z.lt e:=(List.pairwise_cons.mp TF).1 e (iB _ bA)
   have b1:=sd x bA
   have b2:=sd z (cE _ bA)
   have b3:=sd e (iB _ bA)
   unfold Ent.lt klt Ent.k1 at h1 h2
   rw[b1,b2]at h1
   rw[b2,b3]at h2
   cases b
   ·have h1:x.ar<z.ar\/x.ar=z.ar/\x.place<z.place:=h1
    have h2:z.ar<e.ar\/z.ar=e.ar/\z.place<e.place:=h2
    omega
   ·have h1: -x.ar< -z.ar\/-x.ar= -z.ar/\x.place<z.place:=h1
    have h2: -z.ar< -e.ar\/-z.ar= -e.ar/\z.place<e.place:=h2
    omega
  ·exact⟨x,h,hp⟩
theorem VM(p k:Int):∀T:aa (Int×Int),(dk T p k).map (·.1)=if p∈T.map (·.1)then T.map (·.1)else T.map (·.1)++ [p]
 | []=>by simp[dk]
 |t::r=>by
  have ih:=VM p k r
  unfold dk
  by_cases h:t.1=p
  ·rw[aA h]
   simp[h]
  ·rw[ax h,dO,ih,dO]
   have h':¬p=t.1:=λz=>h z.symm
   by_cases hm:p∈r.map (·.1)
   ·rw[aA hm,aA (cE _ hm)]
   ·rw[ax hm,ax]
    ·rfl
    ·intro z
     rcases hZ.mp z with z|z
     ·exact h' z
     ·exact hm z
theorem WN:∀{T:aa (Int×Int)},(T.map (·.1)).Nodup->∀t∈T,bJ (λp=>decide (p=t.1)) T=t.2
 | [],_,t,h=>by simp at h
 |x::r,nd,t,h=>by
  obtain⟨n1,n2⟩:=List.nodup_cons.mp (show(x.1::r.map (·.1)).Nodup from nd)
  have zero:∀(q:Int) (l:aa (Int×Int)),q∉l.map (·.1)->bJ (λp=>decide (p=q)) l=0:=λq l=>by
   induction l with
   |nil=>intro _;rfl
   |cons y l ih=>
    intro hq
    have h1:¬y.1=q:=λz=>hq (by rw[<-z];exact bA)
    show(if decide (y.1=q)=true then y.2 else 0)+bJ _ l=0
    rw[cW h1,ax cb,ih λz=>hq (cE _ z)]
    rfl
  rcases hZ.mp h with rfl|h
  ·show(if decide (t.1=t.1)=true then t.2 else 0)+bJ _ r=t.2
   rw[bO rfl,aA rfl,zero _ _ n1]
   omega
  ·have dc:¬x.1=t.1:=λz=>n1 (by rw[z];exact u4.mpr ⟨t,h,rfl⟩)
   show(if decide (x.1=t.1)=true then x.2 else 0)+bJ _ r=t.2
   rw[cW dc,ax cb,WN n2 t h]
   omega
theorem Vo(q:Int):∀xs:aa Ent,bJ (λp=>decide (p=q)) (gu xs)=eZ ((xs.filter λe=>decide (e.ar=q)).map (·.shown))
 | []=>rfl
 |x::r=>by
  show(if decide (x.ar=q)=true then x.shown else 0)+bJ _ (gu r)=_
  rw[Vo q r]
  by_cases h:x.ar=q
  ·rw[yD (p:=λe:Ent=>decide (e.ar=q)) (bO h),bO h,aA rfl]
   rfl
  ·rw[B6 (p:=λe:Ent=>decide (e.ar=q)) (by simpa using h),cW h,ax cb]
   omega
theorem acf(xs:aa Ent):eN xs->(∀x∈xs,x.au=b)->(cS (gu xs)).map (·.1)=dZ none xs:=by
 have main:∀(n:Nat) (xs:aa Ent),xs.length=n->eN xs->(∀x∈xs,x.au=b)->(cS (gu xs)).map (·.1)=dZ none xs:=λn=>by
  induction n with
  |zero=>
   intro xs hl _ _
   rw[List.length_eq_zero_iff.mp hl]
   rfl
  |succ n ih=>
   intro xs hl so sd
   obtain⟨ys,e,rfl⟩:∃ys e,xs=ys++ [e]:=⟨xs.dropLast,xs.getLast (by intro z;rw[z]at hl;simp at hl),(List.dropLast_concat_getLast _).symm⟩
   have hy:=ih ys (by simpa using hl) (List.pairwise_append.mp so).1 λx hx=>sd x (yJ _ hx)
   have lr:gu (ys++ [e])=gu ys++ [(e.ar,e.shown)]:=by unfold gu;rw[jh];rfl
   rw[lr,Vj,VM,Nr,<-hy]
   have hk:e.ar∈(cS (gu ys)).map (·.1)↔j8 none ys=some e.ar:=by
    rw[ya]
    constructor
    ·intro h
     obtain⟨t,ht,z⟩:=u4.mp h
     obtain⟨x,hx,rfl⟩:=u4.mp ht
     exact U6 so sd ⟨x,hx,z⟩
    ·intro h
     rcases VY h with z| ⟨x,hx,z⟩
     ·cases z
     ·exact u4.mpr ⟨(x.ar,x.shown),u4.mpr ⟨x,hx,rfl⟩,z⟩
   by_cases h:j8 none ys=some e.ar
   ·rw[aA (hk.mpr h),aA h,B4]
   ·rw[ax (λz=>h (hk.mp z)),ax h]
 exact main _ xs rfl
theorem X0(so:eN xs)(sd:∀x∈xs,x.au=b):cS (gu xs)=(dZ none xs).map λp=>(p,eZ ((xs.filter λe=>decide (e.ar=p)).map (·.shown))):=by
 rw[<-acf xs so sd,gG]
 have h:∀t∈cS (gu xs),((λp=>(p,eZ ((xs.filter λe=>decide (e.ar=p)).map (·.shown))))∘(·.1)) t=t:=λt ht=>by
  show(t.1,eZ ((xs.filter λe=>decide (e.ar=t.1)).map (·.shown)))=t
  rw[<-Vo,<-MM,WN (yp _) t ht]
 exact(List.map_id _).symm.trans (qg λt ht=>(h t ht).symm)
end Fb
namespace L2
open PySem PySem.Spec PyProof.Rows
theorem XI{σ0:St}{g:TG}{tc:TT}{te:TE}{G:ah->aa V->Hp->Prop}{H:Hp}(Pv:Nat->aa V->Prop)(h0:Pv 0 [])(hl:∀i ys,i<=n->Pv i ys->ys.length<=sizeLine)
  (hs:∀i ys,i<n->Pv i ys->∀(Rt:V->Hp->Prop) (Rf:Hp->Prop),(∀y,Pv (i+1) (ys++ [y])->Rt y H)->(Pv (i+1) ys->Rf H)->g (.int (0+i)) σ0 H λσ2 H2=>tc σ2 H2 λb H3=>if b=true then te σ2 H3 Rt else Rf H3)
  (hq:∀ys,Pv n ys->∀p,H p=none->G p ys H):
  ∃W:Nat->Nat->aa V->Hp->Prop,(∃m,W 0 m [] H)/\∀i m ys H,W i m ys H->ys.length<=sizeLine/\
   (((nz 0 n).stop i H/\∀p,H p=none->G p ys H)\/
    ((nz 0 n).go i H/\∀x H',(nz 0 n).kF i H x H'->g x σ0 H' λσ2 H2=>tc σ2 H2 λb H3=>if b=true then te σ2 H3 λy H4=>∃m',m'<m/\W (i+1) m' (ys++ [y]) H4 else ∃m',m'<m/\W (i+1) m' ys H3)):=by
 refine⟨λi m zs H'=>H'=H/\i<=n/\m=n-i/\Pv i zs,⟨_,rfl,dD _,rfl,h0⟩,?_⟩
 rintro i m zs H' ⟨rfl,hi,rfl,hp⟩
 refine⟨hl i zs hi hp,?_⟩
 by_cases bq:i<n
 ·refine .inr ⟨bq,λx kP hy=>?_⟩
  obtain⟨e,hx⟩:=hy
  subst e hx
  exact hs i zs bq hp _ _ (λy hy=>⟨_,by omega,rfl,bq,rfl,hy⟩) λhy=>⟨_,by omega,rfl,bq,rfl,hy⟩
 ·have e:i=n:=by omega
  subst e
  exact .inl ⟨bu _,λp pB=>hq zs hp p pB⟩
theorem Mz{y:Str}(h:scope.names.lookup y=some .cell):(relabel scope env).names.lookup y=some .cell:=by
 have main:∀names:aa (Str×NameKind),names.lookup y=some .cell->(names.map λ(n,k)=>if(k==NameKind.free&&env.scope.kind== .function&&env.kindOf n==some .cell)then(n,NameKind.cell)else(n,k)).lookup y=some .cell:=λnames=>by
  induction names with
  |nil=>intro h;simp at h
  |cons p r ih=>
   obtain⟨n,k⟩:=p
   intro h
   rw[j_]at h
   rw[dO]
   dsimp only
   cases e:y==n with
   |true=>
    rw[e]at h
    obtain rfl:=cq h
    have ff:(NameKind.cell==NameKind.free&&env.scope.kind== .function&&env.kindOf n==some .cell)=false:=rfl
    rw[ff,ax cb,j_,e]
   |false=>
    rw[e]at h
    have hn:∀b:ai,((if b=true then(n,NameKind.cell)else(n,k)).1)=n:=λb=>by cases b<;>rfl
    rw[j_]
    have:(y==((if(k==NameKind.free&&env.scope.kind== .function&&env.kindOf n==some .cell)=true then(n,NameKind.cell)else(n,k)):Str×NameKind).1)=false:=by rw[hn];exact e
    split
    ·rename_i z
     rw[this]at z
     cases z
    ·exact ih h
 exact main _ h
end L2
namespace Sx
open PySem PySem.Spec PyProof.Rows
section
variable {a₀:Array Keyed} {st:SortSt}
end
section
end
end Sx
namespace L2
open PySem PySem.Spec PyProof.Rows
section
theorem Inv.grow{t':Nat}(I:Inv X pins σ H s)(k:∀b u,s.heap.get? b=some u->h'.get? b=some u)(old:∀b,b<s.heap.objs.size->H' b=H b)(aI:cG X.prog X.w H' h'):Inv X pins σ H' {s with heap:=h',toks:=t'}:=by
 have o2:∀b u,H b=some u->H' b=some u:=λb u e=>(old b (I.aI.lt e)).trans e
 exact I.un ⟨λb o e _ _ _=>k b o e,λb o e _ _ _=>⟨o.slots,k b o e⟩,λb o e n _=>(old b (cc e)).trans n,λb o e _=>⟨o,k b o e⟩,λb xs e=>o2 b _ e,λb o u e=>o2 b _ e,λb ps e=>⟨#[],by rw[Array.append_empty];exact o2 b _ e⟩⟩ aI
noncomputable def Ae(v d:ah):HO:=.ext λh=>h.IsItemsView v d
theorem abl{v d:ah}(g:h.IsItemsView v d):c8 P w H h v (Ae v d):=by
 obtain⟨o,e,c⟩:=id g
 exact⟨g,⟨o,e⟩,λ_ _ ⟨o,e,c⟩ k=>⟨o,k o e,c⟩⟩
noncomputable def aef:V->aa V->Hp->VK->Prop:=λx vs H Q=>∃(d:ah) (kvs:aa (Key×V)),x= .ref d/\vs= []/\H d=some (.dK kvs)/\∀p,H p=none->Q (.ref p) (upd H p (Ae p d))
theorem acX:vn X "dict.items" aef:=by
 intro pins s σ H x vs v us Q I rx rv h
 obtain⟨d,kvs,rfl,rfl,hH,q⟩:=h
 cases rx
 cases rv
 obtain⟨z,hd,ws,rel,dd⟩:=qd I.aI hH
 refine yN F.slot_dict_items dd.typeIs F.entry_dict_items (F.args_dict_items_1 _) (meets_dict_items (ee X.prog X.w) d hd) ⟨⟨ws,dd⟩,?_⟩
 exact⟨.ref s.heap.objs.size,_,I.laid (t':=s.toks) (λ_ _ e=>cL _ e) (bu _) (abl ⟨_,eR _ rfl,rfl,rfl⟩),rfl,q _ (I.aI.fresh (bu _))⟩
noncomputable def OY(H:Hp):aa V->aa (Key×V)->Prop:=Paired λt kv=>∃a,t= .ref a/\H a=some (.tup [kV kv.1,kv.2])
noncomputable def p_(kvs:aa (Key×V))(j:Nat):aa V:=match kvs[j]? with
 |some kv=>[kV kv.1,kv.2]
 |none=>[]
theorem RV{κ:Type}:∀{kvs:aa (κ×V)} {vs:aa (κ×af)} {i:Nat} {q:κ×af},KV kvs vs->vs[i]?=some q->∃p,kvs[i]?=some p/\p.1=q.1/\RelV p.2 q.2
 |_,_,i,q,.nil,h=>by simp at h
 |_,_,0,q,.cons (a:=p) r t,h=>by
  obtain rfl:=cq h
  exact⟨p,rfl,r⟩
 |_,_,i+1,q,.cons r t,h=>by
  obtain⟨p,h1,h2⟩:=RV (i:=i) t h
  exact⟨p,h1,h2⟩
theorem acb{k:Key}{v:af}(h:(ee P w).is k v=true):RelV (kV k) v:=by
 rcases lP h with⟨i,t,rfl,rfl⟩ | ⟨x,t,rfl,rfl⟩
 ·exact⟨t,rfl⟩
 ·exact⟨t,rfl⟩
theorem Vu{α β:Type}{F:α->β->Prop}:∀{xs:aa α} {ys:aa β},xs.length=ys.length->(∀(j:Nat) x y,xs[j]?=some x->ys[j]?=some y->F x y)->Paired F xs ys
 | [],[],_,_=>.nil
 | [],_::_,h,_=>by simp at h
 |_::_,[],h,_=>by simp at h
 |x::r,y::t,h,g=>.cons (g 0 x y rfl rfl) (Vu (by simpa using h) λj a b h1 h2=>g (j+1) a b h1 h2)
theorem V1:∀{as:aa ah},as.Pairwise (·< ·)->∀{j:Nat} {a:ah},as[j]?=some a->as.idxOf a=j
 | [],_,j,a,h=>by simp at h
 |b::r,hp,0,a,h=>by
  obtain rfl:=cq h
  simp
 |b::r,hp,j+1,a,h=>by
  obtain⟨h1,h2⟩:=List.pairwise_cons.mp hp
  have h:r[j]?=some a:=h
  have dc:b≠a:=cU (h1 a (d6 h))
  rw[List.idxOf_cons,beq_eq_false_iff_ne.mpr dc,cond_false,V1 h2 h]
theorem VC:∀as:aa ah,Vals (as.map V.ref) (as.map Value.ref)
 | []=>.nil
 |a::r=>.cons rfl (VC r)
theorem zi5(hc:X.calm=true):jf X (.type "list") (λxs H Q=>∃(v d:ah) (kvs:aa (Key×V)),xs= [.ref v]/\H v=some (Ae v d)/\H d=some (.dK kvs)/\∀p tv H',aL H H'->H p=none->H' p=some (.lst tv)->OY H' tv kvs->Q (.ref p) H'):=by
 intro pins s σ H xs us Q I r h
 obtain⟨v,d,kvs,rfl,hv,hd,q⟩:=h
 obtain⟨u,rfl,rx⟩:=jg r
 cases rx
 obtain⟨z,hS,ws,rel,o,es,ep,ho,df,we,wt,hp,dg⟩:=qd I.aI hd
 have E7:s.heap.IsItemsView v d:=(show c8 X.prog X.w H s.heap v (Ae v d)from I.aI v _ hv).1
 have hm:s.heap.DictAt (ee X.prog X.w) d ws ep:=⟨o,es,ho,df,we,wt,hp,dg⟩
 have zH:kvs.length=ws.length:=rel.length
 refine W.kdx_call (knd:=ee X.prog X.w) (I.ok.hd hc) E7 hm (by omega) λh' tk acc c as kept hL hlen hG DX=>?_
 have Yg:acc=(as.map Value.ref).toArray:=by rw[<-DX]
 subst Yg
 have wH:∀a∈as,s.heap.objs.size<a:=hG.above
 have tup:∀(j:Nat) (a:ah),as[j]?=some a->∃(its:aa af),Vals (p_ kvs j) its/\IsTup h' a its.toArray:=λj a hj=>by
  obtain⟨key,k,x,h1,h2,h3⟩:=hG.pairs j a hj
  obtain⟨p,g0,eV,jS⟩:=RV rel h1
  refine⟨[key,x],?_,_,h3,rfl,_,rfl⟩
  unfold p_
  rw[g0]
  refine .cons ?_ (.cons jS .nil)
  rw[eV]
  exact acb h2
 obtain⟨H',zk⟩:∃H':Hp,H'=λb=>if b=s.heap.objs.size then some (.lst (as.map V.ref))else if b∈as then some (.tup (p_ kvs (as.idxOf b)))else H b:=⟨_,rfl⟩
 have old:∀b,b<s.heap.objs.size->H' b=H b:=λb hb=>by
  rw[zk]
  show(if b=_ then _ else if b∈as then _ else H b)=H b
  rw[ax (cU hb),ax λhm=>absurd (wH b hm) (Nat.not_lt.mpr (lZ hb))]
 have same:aL H H':=λb u e=>(old b (I.aI.lt e)).trans e
 have Pa:H' s.heap.objs.size=some (.lst (as.map V.ref)):=by
  rw[zk]
  exact aA rfl
 have atT:∀(j:Nat) (a:ah),as[j]?=some a->H' a=some (.tup (p_ kvs j)):=λj a hj=>by
  have ha:=d6 hj
  rw[zk]
  show(if a=_ then _ else if a∈as then some (HO.tup (p_ kvs (as.idxOf a)))else H a)=_
  rw[ax (oT (wH a ha)),aA ha,V1 hG.rise hj]
 have aI:cG X.prog X.w H' h':=λb u e=>by
  by_cases e1:b=s.heap.objs.size
  ·subst e1
   rw[Pa]at e
   obtain rfl:=cq e
   exact⟨by rw[bH,hlen,<-zH];exact z,_,c,VC as,hL⟩
  ·by_cases e2:b∈as
   ·obtain⟨j,hj⟩:=List.mem_iff_getElem?.mp e2
    rw[atT j b hj]at e
    obtain rfl:=cq e
    obtain⟨its,h1,h2⟩:=tup j b hj
    refine⟨?_,its,h1,h2⟩
    unfold p_
    split
    ·rw[a7];show 2<=16777216;decide
    ·exact dD _
   ·have eb:H b=some u:=by
     rw[zk]at e
     have e:(if b=s.heap.objs.size then some (HO.lst (as.map V.ref))else if b∈as then some (HO.tup (p_ kvs (as.idxOf b)))else H b)=some u:=e
     rw[ax e1,ax e2]at e
     exact e
    exact(I.aI b u eb).lK (λc v _ q=>kept c v q) (λc q=>same _ _ q) λc xs q=>same _ _ q
 refine⟨.ref s.heap.objs.size,H',I.grow kept old aI,rfl,q _ _ _ same (I.aI.fresh (bu _)) Pa (Vu ?_ λj x kv hx cw=>?_)⟩
 ·rw[bH,hlen,zH]
 ·rw[fN]at hx
  cases ea:as[j]? with
  |none=>
   rw[ea]at hx
   cases hx
  |some a=>
   rw[ea]at hx
   refine⟨a,(cq hx).symm,?_⟩
   rw[atT j a ea]
   unfold p_
   rw[cw]
end
open PySem PySem.Spec PyProof.Rows
theorem UA{σ0:St}{xs:aa V}{g:TG}{tc:TT}{te:TE}{G:ah->aa V->Hp->Prop}(Pv:Nat->aa V->Hp->Prop)(h0:Pv 0 [] H)(hl:∀i ys H,i<=xs.length->Pv i ys H->aK K H a xs/\ys.length<=sizeLine)
  (hs:∀(i:Nat) (x:V) ys H,xs[i]?=some x->Pv i ys H->∀(Rt:V->Hp->Prop) (Rf:Hp->Prop),(∀y H4,Pv (i+1) (ys++ [y]) H4->Rt y H4)->(∀H3,Pv (i+1) ys H3->Rf H3)->g x σ0 H λσ2 H2=>tc σ2 H2 λb H3=>if b=true then te σ2 H3 Rt else Rf H3)
  (hq:∀ys H,Pv xs.length ys H->∀p,H p=none->G p ys H):
  ∃W:Nat->Nat->aa V->Hp->Prop,(∃m,W 0 m [] H)/\∀i m ys H,W i m ys H->ys.length<=sizeLine/\
   (((fZ K a).stop i H/\∀p,H p=none->G p ys H)\/
    ((fZ K a).go i H/\∀x H',(fZ K a).kF i H x H'->g x σ0 H' λσ2 H2=>tc σ2 H2 λb H3=>if b=true then te σ2 H3 λy H4=>∃m',m'<m/\W (i+1) m' (ys++ [y]) H4 else ∃m',m'<m/\W (i+1) m' ys H3)):=by
 refine⟨λi m ys H=>m=xs.length-i/\i<=xs.length/\Pv i ys H,⟨xs.length,by simp,dD _,h0⟩,?_⟩
 rintro i m ys H ⟨rfl,hi,p⟩
 obtain⟨q1,q2⟩:=hl i ys H hi p
 refine⟨q2,?_⟩
 by_cases bq:i<xs.length
 ·refine .inr ⟨⟨xs,xs[i],q1,by simp[bq]⟩,λx H' y=>?_⟩
  obtain⟨e,y⟩:=y
  subst e
  exact hs i x ys _ (y xs q1) p _ _ (λy H4 h4=>⟨_,by omega,rfl,bq,h4⟩) (λH3 h3=>⟨_,by omega,rfl,bq,h3⟩)
 ·have e:i=xs.length:=by omega
  subst e
  exact .inl ⟨⟨xs,q1,bu _⟩,hq ys H p⟩
end L2
namespace Fb
open PySem L2
open PySem.W (Dat kqdOk)
noncomputable def AA(t:Int×Int):Dat:=.tuple [.int t.1,.int t.2]
theorem M3:∀{tv:aa V} {ps:aa (Int×Int)},pW H tv ps->ji K H tv (ps.map AA)
 |_,_,.nil=>.nil
 |_,_,.cons ⟨a,e,h⟩ r=>by
  subst e
  exact .cons (.tup (aM.of h) (.cons (.int _) (.cons (.int _) .nil))) (M3 r)
noncomputable def T9(K:W.Frag):TE:=rD (du (i9 K (i9 K (aW 0) "order") "price") (du (i9 K (aW 0) "showing") g7))
section
variable {bW:ah} {a:c_} {n:fe} {u:fF} {e:gI} {r:iC}
theorem Tp:bc ["self","side","pairs"] ["self","side"] (aX Of):=bw
inductive afF(c:Cs)(vs:List V)(H:Hp)(Q:VK)(_:XK):Prop
 |mk (g:Ga) (B:Bk) (b:Bool) (_:vs= [.ref g.b,.str (aH b)]) (_:Rep c H g B) (_:(B.at b).length<=1000) (_:∀p tv H',aL H H'->H p=none->H' p=some (.lst tv)->pW H' tv (cS (gu (B.at b)))->Q (.ref p) H')
theorem abC(C:bR K mg c)(F:da K mg a c)(U:jK K mg u)(Wt:eE K mg c r):Kp P w K mg base 2 r.depth ["self","side"] (afF c):=Wt.depth.kp λfd G=>by
 obtain⟨cK,G1,b1,k1⟩:=Be (P:=P) (w:=w) (base:=base) C F
 obtain⟨dG,G2,b2,k2⟩:=RQ (P:=P) (w:=w) (base:=base) U
 refine G.bT Tp λ_ _ _ _ H _ _ _ hr h=>?_
 obtain⟨g,B,b,rfl,R,hlen,q⟩:=h
 obtain⟨dx,hb⟩:=R.ob
 refine⟨_,az (uI (i:=2) (own:=["entry"]) (caps:=[]) (g:=cT 0) (tc:=jy) (te:=T9 K) Tp.nd rfl (Or.inl rfl) rfl (by decide+kernel) (λp hp=>absurd hp (by simp)) (by decide+kernel) rfl (by decide+kernel) (gz (d0 (pv 0) C.bS F.xb G1 hr b1 .nil cO (av (pv 1) ay)))
   (λ_ _ _ _ _=>eO (i:=0) (show(["entry"]:aa Str).Nodup by decide+kernel) rfl (Or.inl (bV rfl)) (Or.inr (bV rfl))) (λ_ _ _ _ _=>yx)
   (λ_ _ _ _ _=>eM (av (aT (aT (pv 0 rfl (.inl (bV rfl))) rfl) rfl) (av (aT (pv 0 rfl (.inl (bV rfl))) rfl) ay))))
  (aD (a8 (x9 (zi5 rfl) (by rfl) C.list (by decide+kernel) (av (S5 Ce PySem.F.slot_dict_items PySem.F.type_dict_items acX (bG G2 hr U.DM k2 b2 (av (pv 2) ay))) ay)))),?_⟩
 refine⟨[],rfl,λj p hp=>absurd hp (by simp),_,rfl,g.b,dx,_,rfl,hb,rfl,_,rfl,g,B,b,rfl,R,λl0 l h0 h1=>⟨l,rfl,⟨_,aK.of aB⟩,?_⟩⟩
 have s2:aL H (upd (upd H l0 (.lst [])) l (.lst (refs (B.at b)))):=(aQ h0).trans (aQ h1)
 have hl:upd (upd H l0 (.lst [])) l (.lst (refs (B.at b))) l=some (.lst (refs (B.at b))):=aB
 generalize upd (upd H l0 (.lst [])) l (.lst (refs (B.at b)))=Hx at*
 have lsh:(gu (B.at b)).length=(B.at b).length:=bH _
 refine UA (K:=K) (σ0:=List.replicate 1 none++ []) (g:=cT 0) (tc:=jy) (te:=T9 K) (xs:=refs (B.at b)) (λi ys H'=>aL Hx H'/\pW H' ys ((gu (B.at b)).take i)) ⟨aL.refl _,.nil⟩ (λi ys H' hi h=>⟨aK.of (h.1 _ _ hl),?_⟩) (λi x ys H' hx h Rt Rf tj _=>?_) (λys H' h p hp=>?_)
 ·have:=Paired.len h.2
  rw[this,iT,a7]
  omega
 ·rw[fN]at hx
  cases ex:(B.at b)[i]? with
  |none=>
   rw[ex]at hx
   cases hx
  |some e=>
   rw[ex]at hx
   obtain rfl:V.ref e.ea=x:=cq hx
   have ek:=(aL.rep (s2.trans h.1) R).en b e (d6 ex)
   obtain⟨de,he⟩:=ek.en
   obtain⟨md,ho⟩:=ek.od
   dsimp only[cT,jy]
   rw[aA rfl]
   refine(rX rfl (rA e.ea c.E de rfl he C.bM C.e1 rfl (rA e.oa c.O md rfl ho C.cN C.o3 rfl (rX rfl (rA e.ea c.E de rfl he C.bM C.e3 rfl ⟨(by rw[a7];show 2<=16777216;decide),λtp mJ=>tj _ _ ⟨h.1.trans (aQ mJ),?_⟩⟩)))))
   have EM:(gu (B.at b))[i]?=some (e.ar,e.shown):=by
    show((B.at b).map _)[i]?=_
    rw[fN,ex]
    rfl
   rw[pS EM]
   exact Paired.snoc ⟨tp,rfl,aB⟩ (Paired.eJ h.2 λv t ⟨z,h1,h2⟩=>⟨z,h1,aQ mJ _ _ h2⟩)
 ·obtain⟨s3,jS⟩:=h
  have e:(refs (B.at b)).length=(gu (B.at b)).length:=by rw[bH,lsh]
  rw[e,kL]at jS
  have s4:=aQ (o:=.lst ys) hp
  refine(rX rfl ⟨p,ys,gu (B.at b),rfl,aB,Paired.eJ jS λv t ⟨z,h1,h2⟩=>⟨z,h1,s4 _ _ h2⟩,by omega,λdd H5 s5 dY wc=>?_⟩)
  refine⟨.inr (.inr (.inl ⟨rfl,.inl ⟨_,wc⟩⟩)),dd,_,rfl,rfl,wc,λv hv=>⟨v,dd,_,rfl,aB,aQ hv _ _ wc,λp2 tv H6 s6 eV wx cw=>?_⟩⟩
  have sA:=(s2.trans s3).trans (s4.trans s5)
  refine q p2 tv H6 (sA.trans ((aQ hv).trans s6)) ((sA.trans (aQ hv)).free eV) wx ?_
  have conv:∀{tv:aa V} {ps:aa (Int×Int)},OY H6 tv (ps.map fT)->pW H6 tv ps:=λ{tv ps} hk=>by
   induction ps generalizing tv with
   |nil=>cases hk;exact .nil
   |cons t r ih=>
    cases hk with
    |cons h1 h2=>exact .cons h1 (ih h2)
  exact conv cw
theorem aeW:bc ["self","number"] ["self","number"] (aX LA):=bw
inductive afT(c:Cs)(vs:List V)(H:Hp)(Q:VK)(_:XK):Prop
 |mk (g:Ga) (B:Bk) (b:Bool) (x:Ent) (_:vs= [.ref g.b,.int x.num]) (_:Rep c H g B) (_:B.Ok) (_:x∈B.at b) (_:Q (.int x.left) H)
theorem abJ(T:fP K mg bo nt nn be)(C:bR K mg c)(N:jl K mg c n)(Wt:eE K mg c r):Kp P w K mg base 2 r.left ["self","number"] (afT c):=Wt.left.kp λfd G=>by
 obtain⟨cK,G1,b1,k1⟩:=Bj (P:=P) (w:=w) (base:=base) T C N
 refine G.bT aeW λ_ _ _ _ _ _ _ _ hr h=>?_
 obtain⟨g,B,b,x,rfl,R,ok,hx,q⟩:=h
 obtain⟨dx,hb⟩:=id R.ob
 refine⟨_,aD (a8 (aT (d0 (pv 0) C.bS N.xc G1 hr b1 .nil cO (av (pv 1) ay)) rfl)),?_⟩
 have lt:=ok.lt b x hx
 have cm:=ok.cm
 have Pt:(10:Nat)^30=1000000000000000000000000000000:=by decide
 refine(rX rfl (rM g.b dx rfl hb rfl (rX rfl ⟨g,B,x.num,rfl,R,by omega,λb' y hy hn=>?_,λdh=>absurd rfl (dh b x hx)⟩)))
 have gO:b'=b:=yd (b:=true) ok b' b hy hx hn
 subst gO
 have kB:y=x:=qa (ok.nd b') hy hx hn
 subst kB
 obtain⟨⟨dy,bp⟩,_,_⟩:=R.en b' y hy
 exact⟨y.ea,c.E,dy,_,_,rfl,bp,C.bM,C.e2,rfl,q⟩
theorem afd:bc ["self"] ["self"] (aX NZ):=bw
inductive agj(c:Cs)(vs:List V)(H:Hp)(Q:VK)(_:XK):Prop
 |mk (g:Ga) (B:Bk) (_:vs= [.ref g.b]) (_:Rep c H g B) (_:Q (.int B.bE) H)
theorem ab3(C:bR K mg c)(Wt:eE K mg c r):Kp P w K mg base 1 r.uu ["self"] (agj c):=Wt.uu.kp λfd G=>by
 refine G.bT afd λ_ _ _ _ _ _ _ _ _ h=>?_
 obtain⟨g,B,rfl,R,q⟩:=h
 obtain⟨dx,hb⟩:=R.ob
 exact⟨_,aD (a8 (aT (pv 0) rfl)),_,rfl,g.b,c.B,dx,_,_,rfl,hb,C.bS,C.b7,rfl,q⟩
theorem ae9:bc ["self","number"] ["self","number"] (aX OA):=bw
inductive age(c:Cs)(vs:List V)(H:Hp)(Q:VK)(_:XK):Prop
 |mk (g:Ga) (B:Bk) (b:Bool) (x:Ent) (_:vs= [.ref g.b,.int x.num]) (_:Rep c H g B) (_:B.Ok) (_:x∈B.at b) (_:Q (.int x.shown) H)
theorem ab0(T:fP K mg bo nt nn be)(C:bR K mg c)(N:jl K mg c n)(Wt:eE K mg c r):Kp P w K mg base 2 r.shown ["self","number"] (age c):=Wt.shown.kp λfd G=>by
 obtain⟨cK,G1,b1,k1⟩:=Bj (P:=P) (w:=w) (base:=base) T C N
 refine G.bT ae9 λ_ _ _ _ _ _ _ _ hr h=>?_
 obtain⟨g,B,b,x,rfl,R,ok,hx,q⟩:=h
 obtain⟨dx,hb⟩:=id R.ob
 refine⟨_,aD (a8 (aT (d0 (pv 0) C.bS N.xc G1 hr b1 .nil cO (av (pv 1) ay)) rfl)),?_⟩
 have lt:=ok.lt b x hx
 have cm:=ok.cm
 have Pt:(10:Nat)^30=1000000000000000000000000000000:=by decide
 refine(rX rfl (rM g.b dx rfl hb rfl (rX rfl ⟨g,B,x.num,rfl,R,by omega,λb' y hy hn=>?_,λdh=>absurd rfl (dh b x hx)⟩)))
 have gO:b'=b:=yd (b:=true) ok b' b hy hx hn
 subst gO
 have kB:y=x:=qa (ok.nd b') hy hx hn
 subst kB
 obtain⟨⟨dy,bp⟩,_,_⟩:=R.en b' y hy
 exact⟨y.ea,c.E,dy,_,_,rfl,bp,C.bM,C.e3,rfl,q⟩
end
end Fb
namespace L2
open PySem PySem.Spec PyProof.Rows
theorem zhp{y:Str}(h:scope.names.lookup y=some .free)(hk:env.scope.kind= .function)(hc:env.kindOf y=some .cell):(relabel scope env).names.lookup y=some .cell:=by
 have main:∀names:aa (Str×NameKind),names.lookup y=some .free->(names.map λ(n,k)=>if(k==NameKind.free&&env.scope.kind== .function&&env.kindOf n==some .cell)then(n,NameKind.cell)else(n,k)).lookup y=some .cell:=λnames=>by
  induction names with
  |nil=>intro h;simp at h
  |cons p r ih=>
   obtain⟨n,k⟩:=p
   intro h
   rw[j_]at h
   rw[dO]
   dsimp only
   cases e:y==n with
   |true=>
    rw[e]at h
    obtain rfl:=cq h
    have en:y=n:=by simpa using e
    subst en
    have ff:(NameKind.free==NameKind.free&&env.scope.kind== .function&&env.kindOf y==some .cell)=true:=by rw[hk,hc];rfl
    rw[aA ff,j_,e]
   |false=>
    rw[e]at h
    have hn:∀b:ai,((if b=true then(n,NameKind.cell)else(n,k)).1)=n:=λb=>by cases b<;>rfl
    rw[j_]
    have:(y==((if(k==NameKind.free&&env.scope.kind== .function&&env.kindOf n==some .cell)=true then(n,NameKind.cell)else(n,k)):Str×NameKind).1)=false:=by rw[hn];exact e
    split
    ·rename_i z
     rw[this]at z
     cases z
    ·exact ih h
 exact main _ h
end L2
namespace Fb
open PySem L2
open PySem.W (Dat kqdOk)
theorem NS:∀(pv:ae Int) (xs:aa Ent),(dZ pv xs).length<=xs.length
 |_,[]=>bu _
 |pv,x::r=>by
  have h:=NS (some x.ar) r
  show(if pv=some x.ar then dZ (some x.ar) r else x.ar::dZ (some x.ar) r).length<=r.length+1
  split
  ·omega
  ·rw[d5]
   omega
theorem S3:(2:Int)^62=4611686018427387904:=by decide
theorem Pn(ps:aa (Int×Int)):kqdOk 9 (.list (ps.map AA))=true:=BE 8 λx hx=>by
 obtain⟨t,_,rfl⟩:=u4.mp hx
 rfl
noncomputable abbrev Af(K:W.Frag)(t:TE):TE:=ej (e7 (ue K) (aW 1) t) (tC (.str "price"))
noncomputable abbrev S9(K:W.Frag):TT:=L5 (hV (e7 mW (aW 0) (tC (.int 0)))) (hV (e7 pM (Af K (e7 (jW λi j=>.int (i-j)) (aW 0) (tC (.int 1)))) (Af K (aW 0))))
noncomputable abbrev wW:TT:=hV (e7 mW (ej (aW 0) (tC (.str "price"))) (aW 1))
noncomputable abbrev Po(K:W.Frag):TE:=rD (du (aW 0) (du (xN (λxs H Q=>∃(l:ah) (ns:aa Int),xs= [.ref l]/\aK K H l (ns.map V.int)/\Q (.int (eZ ns)) H) (du (p0 1 [("_law_price_here",0)] (Fd K (aW 1)) (cT 0) wW (ej (aW 0) (tC (.str "shown")))) g7)) g7))
section
variable {bW:ah} {a:c_} {n:fe} {u:fF} {e:gI} {r:iC}
theorem sg:bc ["_law_book","_law_world","_law_side_here","_law_rows","_law_prices","_law_due","_law_one","_law_number"] ["_law_book","_law_world"] (aX ND):=bw
inductive agc(c:Cs)(vs:List V)(H:Hp)(Q:VK)(_:XK):Prop
 |mk (g:Ga) (wa lo:Addr) (ad:Int->Addr) (W:Ws) (B:Bk) (_:vs= [.ref g.b,.ref wa]) (_:Rep c H g B) (_:bP H wa lo ad W) (_:WB W B) (_:B.Ok) (_:B.Pos) (_:Wp W) (_:∀H',aL H H'->Q (.bl true) H')
theorem TC{t1 t2:TS}(h:∀T,T=t2->oj t1 T D σ H):oj t1 t2 D σ H:=h _ rfl
theorem abY(T:fP K mg bo nt nn be)(C:bR K mg c)(F:da K mg a c)(N:jl K mg c n)(U:jK K mg u)(Z:jL mg)(L:nr K mg bo nt nn be e)(I:vi K)(Wt:eE K mg c r):Kp P w K mg base 4 r.same ["_law_book","_law_world"] (agc c):=Wt.same.kp λfd G=>by
 obtain⟨cK,G1,b1,k1⟩:=OJ (P:=P) (w:=w) (base:=base) Z Wt
 obtain⟨dG,G2,b2,k2⟩:=abX (P:=P) (w:=w) (base:=base) C F
 obtain⟨gY,G3,b3,k3⟩:=abC (P:=P) (w:=w) (base:=base) C F U Wt
 obtain⟨kX,G4,b4,k4⟩:=RL (P:=P) (w:=w) (base:=base) L I Wt
 obtain⟨mh,G5,b5,k5⟩:=abJ (P:=P) (w:=w) (base:=base) T C N Wt
 obtain⟨PH,G6,b6,k6⟩:=ab0 (P:=P) (w:=w) (base:=base) T C N Wt
 obtain⟨PJ,G7,b7,k7⟩:=RM (P:=P) (w:=w) (base:=base) C N
 obtain⟨Yu,G8,b8,k8⟩:=ab3 (P:=P) (w:=w) (base:=base) C Wt
 obtain⟨Yv,G9,b9,k9⟩:=Bd (P:=P) (w:=w) (base:=base) C F
 refine G.bT sg λ_ _ _ _ H _ _ _ hr h=>?_
 obtain⟨g,wa,lo,ad,W,B,rfl,R,RW,wb,ok,ps,wp,q⟩:=h
 have hu:=fc hr
 have z8:=hr.units
 have b_:bB 1 _:=hr.mono (by decide)
 have di:bB 2 _:=hr.mono (by decide)
 refine⟨_,az (oI jG rfl (Oi (eM (av aJ (av aJ ay)))) (eO (i:=2) sg.nd rfl (Or.inl rfl))
   (az (Oh (i:=3) sg.nd rfl (Or.inr rfl) (bG G1 hr Wt.sZ k1 b1 (av (pv 1) (av (pv 2) ay))))
   (az (bK (bC (SX z8) (d0 (pv 0) C.bS F.Sj G2 di b2 .nil cO (av (pv 2) ay)) (ou (own:=["_law_one"]) (caps:=[]) (g:=cT 0) (tc:=jy) (te:=ej (aW 0) (tC (.str "number"))) rfl (by decide+kernel) (λp hp=>absurd hp (by simp)) (by decide+kernel) rfl (by decide+kernel)
    (gz (pv 3)) (λ_ _ _ _ _=>eO (i:=0) (show(["_law_one"]:aa Str).Nodup by decide+kernel) rfl (Or.inl (bV rfl)) (Or.inr (bV rfl))) (λ_ _ _ _ _=>yx)
    (λ_ _ _ _ _=>a_ hu (pv 0 rfl (.inl (bV rfl))))) (a9 _)) (aD (a8 iA)) bZ)
   (az (uI (i:=4) (own:=["_law_k"]) (caps:=[("_law_rows",3)]) (g:=cT 0) (tc:=S9 K) (te:=Af K (aW 0)) sg.nd rfl (Or.inl rfl) rfl (by decide+kernel) (oM ⟨rfl,rfl,rfl⟩) (by decide+kernel) rfl (by decide+kernel)
    (Vs (by rfl) L.DP (av (c9 A5 (by rfl) C.len (by decide+kernel) (av (pv 3) ay)) ay)) (λ_ _ _ _ _=>eO (i:=0) (show(["_law_k","_law_rows"]:aa Str).Nodup by decide+kernel) rfl (Or.inl (bV rfl)) (Or.inr (bV rfl)))
    (λ_ _ _ _ _=>lU (PW.pt (jE (bC cQ (pv 0 rfl (.inl (bV rfl))) aF (a9 _)) (jz (bC hX (a_ hu (cv (r:=ue K) g9 (pv 1 rfl (.inr (iu rfl))) (ba kJ (pv 0 rfl (.inl (bV rfl))) aF) (λ_ _=>rfl))) (a_ hu (cv (r:=ue K) g9 (pv 1 rfl (.inr (iu rfl))) (pv 0 rfl (.inl (bV rfl))) (λ_ _=>rfl))) (a9 _))))))
    (λ_ _ _ _ _=>a_ hu (cv (r:=ue K) g9 (pv 1 rfl (.inr (iu rfl))) (pv 0 rfl (.inl (bV rfl))) (λ_ _=>rfl))))
   (az (ad4 (i:=5) (x0:="_law_price_here") (own:=["_law_price_here"]) (caps:=[("_law_rows",3)]) (g:=cT 0) (tc:=jy) (te:=Po K) sg.nd rfl (Or.inl rfl) rfl (by decide+kernel) (oM ⟨rfl,rfl,rfl⟩) (λ_ _=>rfl) (λ_=>rfl) (by decide+kernel) (by decide+kernel) rfl (by decide+kernel)
    (gz (pv 4)) (λ_ _ _ _ _=>eO (i:=0) (show(["_law_price_here","_law_rows"]:aa Str).Nodup by decide+kernel) rfl (Or.inr (Mz rfl)) (Or.inl rfl)) (λ_ _ _ _ _=>yx)
    (λ_ _ _ _ _=>eM (av (pv 0 rfl (.inr (.inl (Mz rfl)))) (av (c9 (MV rfl) (by rfl) Z.sum (by decide+kernel) (av (ou (own:=["_law_one"]) (caps:=[("_law_price_here",0)]) (g:=cT 0) (tc:=wW) (te:=ej (aW 0) (tC (.str "shown"))) rfl (by decide+kernel) (oM ⟨rfl,rfl,Mz rfl⟩) (by decide+kernel) rfl (by decide+kernel)
     (gz (pv 1 rfl (.inr (.inl (zhp rfl rfl rfl))))) (λ_ _ _ _ _=>eO (i:=0) (show(["_law_one","_law_price_here"]:aa Str).Nodup by decide+kernel) rfl (Or.inl (bV rfl)) (Or.inr (bV rfl)))
     (λ_ _ _ _ _=>lU (bC cQ (a_ hu (pv 0 rfl (.inl (bV rfl)))) (pv 1 rfl (.inr (iu rfl))) (a9 _)))
     (λ_ _ _ _ _=>a_ hu (pv 0 rfl (.inl (bV rfl))))) ay)) ay))))
   (aD (bK (bC (SX z8) (d0 (pv 0) C.bS Wt.Sh G3 di b3 .nil cO (av (pv 2) ay)) (pv 5) (a9 _)) (aD (a8 iA)) bZ)))))))
  (az (oI jG rfl (gz (a_ hu (pv 1))) (eO (i:=6) sg.nd rfl (Or.inl rfl))
   (az (aZ 7 sg.nd (a_ hu (pv 6)))
   (aD (bK (PW.pt (jE (jd (e8 (bG G4 b_ Wt.qy k4 b4 (av (d0 (pv 0) C.bS Wt.Si G5 di b5 .nil cO (av (pv 7) ay)) (av (a_ hu (pv 6)) ay)))))
    (jz (jd (e8 (bG G4 b_ Wt.qy k4 b4 (av (d0 (pv 0) C.bS Wt.Sk G6 di b6 .nil cO (av (pv 7) ay)) (av (a_ hu (pv 6)) ay)))))))) (aD (a8 iA)) bZ))))
  (az (bK (PW.pt (jE (jd (e8 (bG G4 b_ Wt.qy k4 b4 (av (m8 (pv 0) C.bS N.Fu G7 b_ b7 .nil cO) (av (a_ hu (pv 1)) ay)))))
    (jz (jd (e8 (bG G4 b_ Wt.qy k4 b4 (av (m8 (pv 0) C.bS Wt.Sm G8 b_ b8 .nil cO) (av (a_ hu (pv 1)) ay)))))))) (aD (a8 iA)) bZ)
  (aD (a8 (bG G4 b_ Wt.qy k4 b4 (av (m8 (pv 0) C.bS F.tW G9 b_ b9 .nil cO) (av (a_ hu (pv 1)) ay))))))),?_⟩
 have Fo:∀b,(B.at b).length<=500:=λb=>by
  have z1:=m_ B b
  have z2:=ok.ct
  have z3:=ok.cm
  omega
 refine TC λT hT=>⟨dM 2 rfl,λpt wL=>⟨pt,rfl,⟨_,aM.of aB⟩,?_⟩⟩
 have s1:=aQ (o:=.tup [.str "buy",.str "sell"]) wL
 have qO:upd H pt (.tup [.str "buy",.str "sell"]) pt=some (.tup [.str "buy",.str "sell"]):=aB
 generalize upd H pt (.tup [.str "buy",.str "sell"])=H1 at*
 refine NT (K:=K) (a:=pt) (xs:=[.str "buy",.str "sell"]) (λj σ H'=>∃z2 z3 z4 z5 z6 z7:ae V,σ= [some (.ref g.b),some (.ref wa),z2,z3,z4,z5,z6,z7]/\aL H1 H') ⟨_,_,_,_,_,_,rfl,aL.refl _⟩ (λj σ H' _ h=>?_) ?_ ?_
 ·obtain⟨_,_,_,_,_,_,_,s2⟩:=h
  exact aM.of (s2 _ _ qO)
 ·rintro j v σ H2 hj ⟨z2,z3,z4,z5,z6,z7,rfl,s2⟩
  obtain⟨b,rfl⟩:∃b,v= .str (aH b):=by
   rcases j with _|_|j
   ·exact⟨true,(cq hj).symm⟩
   ·exact⟨false,(cq hj).symm⟩
   ·simp at hj
  have ug:=s1.trans s2
  refine(rX rfl (rX rfl ⟨wa,lo,ad,W,b,rfl,RW.same ug,λx hx=>(wp.lt x hx).1,wp.nd,λl ss H3 s3 mE hp hs hl=>?_⟩))
  obtain rfl:=wb.side ok hp hs
  have hl:H3 l=some (.lst ((B.at b).map λe=>.ref (ad e.num))):=by rw[hl,gG];rfl
  have xI:=ug.trans s3
  have R3:=aL.rep xI R
  obtain⟨X1,zo⟩:=id R3.ob
  have wY:∀{i:Nat} {y:Ent},(B.at b)[i]?=some y->y.er∈W.es:=λ{i y} hy=>wb.in.mpr ⟨y,dU.mpr ⟨_,d6 hy⟩,rfl⟩
  have lb:=Fo b
  refine(rX rfl (rM g.b X1 rfl zo rfl (rX rfl ⟨g,B,b,rfl,R3,by omega,λl4 H4 s4 hf4 qE=>?_⟩)))
  have Ey:=s4 _ _ hl
  have Xd:=RW.same (xI.trans s4)
  refine⟨[],rfl,λj p hp=>absurd hp (by simp),_,rfl,l,rfl,⟨_,aK.of Ey⟩,?_⟩
  refine zi4 (K:=K) (σ0:=List.replicate 1 none++ []) (g:=cT 0) (te:=ej (aW 0) (tC (.str "number"))) (xs:=(B.at b).map λe=>.ref (ad e.num)) (ys:=qe (B.at b)) (aK.of Ey) (by rw[bH,bH]) (by rw[bH,a7];omega) (λi x y hx hy R1 hR=>?_) (λx σ H R R' hi h=>hi _ _ h) λp5 EK=>?_
  ·obtain⟨e,he,rfl⟩:=iS hx
   obtain⟨e',mC,rfl⟩:=iS hy
   rw[he]at mC
   obtain rfl:=cq mC
   exact(rX rfl ⟨ad e.num,rX rfl ⟨cg (Xd.o e.er (wY he)).1 rfl,hR⟩⟩)
  have s5:=aQ (o:=.lst (qe (B.at b))) EK
  have en:qe (B.at b)=((B.at b).map (·.num)).map V.int:=by rw[gG];rfl
  refine⟨.list (((B.at b).map (·.num)).map Dat.int),.list (((B.at b).map (·.num)).map Dat.int),.lst (aK.of (s5 _ _ qE)) (by rw[en];exact Nq _),.lst (aK.of aB) (by rw[en];exact Nq _),WS 8 _,WS 8 _,λk hk=>(rX rfl (bj (by rw[hk.mpr rfl];rfl) ?_))⟩
  have tJ:=s5 _ _ Ey
  have Tf:=(xI.trans s4).trans s5
  generalize upd H4 p5 (.lst (qe (B.at b)))=H5 at*
  have Xe:=RW.same Tf
  have Aq:∀{i:Nat} {y:Ent},(B.at b)[i]?=some y->H5 (ad y.num)=some (.dK (oD y.er)):=λ{i y} hy=>(Xe.o y.er (wY hy)).1
  refine⟨[.ref l],rfl,oK rfl,_,rfl,l,_,rfl,.inl (aK.of tJ),?_⟩
  have Dx:(((B.at b).map λe=>V.ref (ad e.num)).length:Int)=((B.at b).length:Int):=by rw[bH]
  refine(rX rfl ⟨by rw[Dx,S3];omega,by rw[Dx,S3];omega,?_⟩)
  rw[Dx,sr]
  refine XI (σ0:=List.replicate 1 none++ [some (.ref l)]) (g:=cT 0) (tc:=S9 K) (te:=Af K (aW 0)) (n:=(B.at b).length) (λi ys=>ys=(dZ none ((B.at b).take i)).map V.int) rfl (λi ys hi qW=>?_) (λi ys hi qW Rt Rf tj YW=>?_) λys qW p6 EL=>?_
  ·rw[qW,bH,a7]
   have:=NS none ((B.at b).take i)
   rw[iT]at this
   omega
  ·have hy:(B.at b)[i]?=some ((B.at b)[i]):=jF hi
   generalize(B.at b)[i]=y at hy
   have EW:((B.at b).map λe=>V.ref (ad e.num))[i]?=some (V.ref (ad y.num)):=by rw[fN,hy];rfl
   have tk:(B.at b).take (i+1)=(B.at b).take i++ [y]:=pS hy
   have Rh:dZ none ((B.at b).take (i+1))=dZ none ((B.at b).take i)++(if j8 none ((B.at b).take i)=some y.ar then []else [y.ar]):=by rw[tk,Nr]
   have yes:¬j8 none ((B.at b).take i)=some y.ar->ys++ [V.int y.ar]=(dZ none ((B.at b).take (i+1))).map V.int:=λh=>by rw[Rh,ax h,jh,qW];rfl
   have no:j8 none ((B.at b).take i)=some y.ar->ys=(dZ none ((B.at b).take (i+1))).map V.int:=λh=>by rw[Rh,aA h,B4,qW]
   have ei:(0:Int)+(i:Int)=(i:Int):=by omega
   rw[ei]
   refine(rX rfl ⟨rfl,rX rfl ?_⟩)
   cases i with
   |zero=>
    exact bY rfl (bL ⟨_,rfl,_,rfl,l,_,_,_,rfl,rfl,aK.of tJ,bf EW,ad y.num,_,rfl,cg (Aq hy) rfl,tj _ (yes (by show ¬(none:ae Int)=_;exact λz=>by cases z))⟩)
   |succ i=>
    refine bj (cW λz=>by injection z with z;omega) ?_
    have k_:i< (B.at b).length:=by omega
    have Ab:(B.at b)[i]?=some ((B.at b)[i]):=jF k_
    generalize(B.at b)[i]=y0 at Ab
    have aaz:((B.at b).map λe=>V.ref (ad e.num))[i]?=some (V.ref (ad y0.num)):=by rw[fN,Ab];rfl
    have lst:j8 none ((B.at b).take (i+1))=some y0.ar:=U7 (i:=i) (by rw[List.getElem?_take_of_lt (by omega)];exact Ab) (by rw[iT];omega)
    have Yo:((i+1:Nat):Int) -1=(i:Int):=by omega
    refine⟨_,rfl,_,rfl,_,_,rfl,rfl,l,_,_,_,rfl,rfl,aK.of tJ,by rw[Yo];exact bf aaz,ad y0.num,_,rfl,cg (Aq Ab) rfl,_,rfl,_,rfl,l,_,_,_,rfl,rfl,aK.of tJ,bf EW,ad y.num,_,rfl,cg (Aq hy) rfl,rfl,_,rfl,?_⟩
    by_cases zT:y0.ar=y.ar
    ·exact bj (by show(!decide (V.int y0.ar=V.int y.ar))=false;rw[zT];simp) (YW (no (by rw[lst,zT])))
    ·exact bY (by show(!decide (V.int y0.ar=V.int y.ar))=true;simp[zT]) ⟨_,rfl,_,rfl,l,_,_,_,rfl,rfl,aK.of tJ,bf EW,ad y.num,_,rfl,cg (Aq hy) rfl,tj _ (yes (by rw[lst];exact λz=>zT (cq z)))⟩
  rw[kL]at qW
  subst qW
  have s6:=aQ (o:=.lst ((dZ none (B.at b)).map V.int)) EL
  have Q6:upd H5 p6 (.lst ((dZ none (B.at b)).map V.int)) p6=some (.lst ((dZ none (B.at b)).map V.int)):=aB
  have ZU:=s6 _ _ tJ
  have Tg:=Tf.trans s6
  generalize upd H5 p6 (.lst ((dZ none (B.at b)).map V.int))=H6 at*
  obtain⟨fp,QA⟩:∃fp:Int->Int×Int,fp=λp=>(p,eZ (((B.at b).filter λe=>decide (e.ar=p)).map (·.shown))):=⟨_,rfl⟩
  have lh:=NS none (B.at b)
  refine⟨[.ref l],rfl,oK rfl,_,rfl,p6,rfl,⟨_,aK.of Q6⟩,?_⟩
  refine UA (K:=K) (σ0:=List.replicate 1 none++ [some (.ref l)]) (g:=cT 0) (tc:=jy) (te:=Po K) (xs:=(dZ none (B.at b)).map V.int) (λi ys H'=>aL H6 H'/\pW H' ys (((dZ none (B.at b)).take i).map fp)) ⟨aL.refl _,.nil⟩ (λi ys H' hi h=>⟨aK.of (h.1 _ _ Q6),?_⟩) (λi x ys H7 hx h Rt Rf tj _=>?_) λys H7 h p9 hp9=>?_
  ·have:=Paired.len h.2
   rw[this,bH,iT,a7]
   omega
  ·obtain⟨s7,nU⟩:=h
   obtain⟨p,ES,rfl⟩:=iS hx
   have CC:=RW.same (Tg.trans s7)
   have QQ:=s7 _ _ ZU
   dsimp only[cT,jy]
   rw[aA rfl]
   refine(rX rfl ⟨[.int p],rfl,oK rfl,rX rfl ⟨l,rfl,⟨_,aK.of QQ⟩,?_⟩⟩)
   refine oB (K:=K) (σ0:=List.replicate 1 none++ [some (.int p)]) (g:=cT 0) (tc:=wW) (te:=ej (aW 0) (tC (.str "shown"))) (xs:=(B.at b).map λe=>.ref (ad e.num)) (dX (B.at b) (λe=>decide (e.ar=p)) λe=>.int e.shown) (aK.of QQ) (by rw[bH,a7];omega) (λj x hx Rt Rf ht hf=>?_) λp8 hp8=>?_
   ·obtain⟨y,hy,rfl⟩:=iS hx
    have jv:dX (B.at b) (λe=>decide (e.ar=p)) (λe=>V.int e.shown) j (.ref (ad y.num))=if decide (y.ar=p)=true then some (.int y.shown)else none:=by unfold dX;rw[hy]
    have og:=(CC.o y.er (wY hy)).1
    refine(rX rfl ⟨ad y.num,rX rfl ⟨cg og rfl,rX rfl ⟨rfl,rX rfl ?_⟩⟩⟩)
    by_cases e:y.ar=p
    ·exact bY (by show decide (V.int y.ar=V.int p)=true;rw[e];simp) (rX rfl ⟨ad y.num,rX rfl ⟨cg og rfl,ht _ (by rw[jv,bO e];rfl)⟩⟩)
    ·exact bj (by show decide (V.int y.ar=V.int p)=false;simp[e]) (hf (by rw[jv,cW e];rfl))
   rw[oA]
   have hints:((B.at b).filter λe=>decide (e.ar=p)).map (λe=>V.int e.shown)=(((B.at b).filter λe=>decide (e.ar=p)).map (·.shown)).map V.int:=by rw[gG];rfl
   rw[hints]
   have s8:=aQ (o:=.lst ((((B.at b).filter λe=>decide (e.ar=p)).map (·.shown)).map V.int)) hp8
   refine⟨p8,_,rfl,aK.of aB,dM 2 rfl,λt ht=>tj _ _ ⟨s7.trans (s8.trans (aQ ht)),?_⟩⟩
   rw[pS ES,jh]
   refine Paired.snoc ⟨t,rfl,?_⟩ (Paired.eJ nU λv t' ⟨z,h1,h2⟩=>⟨z,h1,aQ ht _ _ (s8 _ _ h2)⟩)
   rw[aB,QA]
  obtain⟨s7,nU⟩:=h
  rw[bH,kL]at nU
  have e9:(dZ none (B.at b)).map fp=cS (gu (B.at b)):=by rw[QA];exact(X0 (ok.so b) (ok.sd b)).symm
  rw[e9]at nU
  have s9:=aQ (o:=.lst ys) hp9
  have Zk:upd H7 p9 (.lst ys) p9=some (.lst ys):=aB
  have aao:pW (upd H7 p9 (.lst ys)) ys (cS (gu (B.at b))):=Paired.eJ nU λv t' ⟨z,h1,h2⟩=>⟨z,h1,s9 _ _ h2⟩
  have s09:=Tg.trans (s7.trans s9)
  generalize upd H7 p9 (.lst ys)=H9 at*
  have R9:=aL.rep s09 R
  obtain⟨X2,Y6⟩:=id R9.ob
  refine(rX rfl (rM g.b X2 rfl Y6 rfl (rX rfl ⟨g,B,b,rfl,R9,by omega,λp10 akM sO n_ aj0 Er aal=>(rX rfl ⟨.list ((cS (gu (B.at b))).map AA),.list ((cS (gu (B.at b))).map AA),.lst (aK.of Er) (M3 aal),.lst (aK.of (n_ _ _ Zk)) (M3 (Paired.eJ aao λv t' ⟨z,h1,h2⟩=>⟨z,h1,n_ _ _ h2⟩)),Pn _,Pn _,λk hk=>(rX rfl (bj (by rw[hk.mpr rfl];rfl) ?_))⟩)⟩)))
  refine⟨_,_,_,_,_,_,rfl,?_⟩
  exact s2.trans (s3.trans (s4.trans (s5.trans (s6.trans (s7.trans (s9.trans n_))))))
 ·rintro σ H2 ⟨z2,z3,z4,z5,z6,z7,rfl,s2⟩
  subst hT
  have ug:=s1.trans s2
  have R2:=aL.rep ug R
  have kQ:=RW.same ug
  dsimp only
  refine TC λT hT=>(rX rfl ⟨wa,rX rfl ⟨kQ.wg (pU W lo),lo,rfl,⟨_,aK.of kQ.l⟩,?_⟩⟩)
  obtain⟨kW,i3⟩:=id R2.ob
  refine yj (K:=K) (a:=lo) (xs:=W.es.map λe=>.ref (ad e.num)) (λj σ H'=>∃z2 z3 z4 z5 z6 z7:ae V,σ= [some (.ref g.b),some (.ref wa),z2,z3,z4,z5,z6,z7]/\H'=H2) ⟨_,_,_,_,_,_,rfl,rfl⟩ (λj σ H' _ h=>?_) ?_ ?_
  ·obtain⟨_,_,_,_,_,_,_,rfl⟩:=h
   exact aK.of kQ.l
  ·rintro j v σ H' hj ⟨z2,z3,z4,z5,z6,z7,rfl,rfl⟩
   obtain⟨x,hx,rfl⟩:=iS hj
   obtain⟨y,hy,rfl⟩:=A3 wb ok (d6 hx)
   have ox:=(kQ.o y.er (d6 hx)).1
   refine(rX rfl ⟨ad y.num,rX rfl ⟨cg ox rfl,?_⟩⟩)
   refine(rX rfl (rM g.b kW rfl i3 rfl (rX rfl ⟨g,B,y.au,y,rfl,R2,ok,hy,rX rfl ⟨ad y.num,rX rfl ⟨cg ox rfl,_,_,rfl,.inl ⟨rfl,.inl ⟨_,rfl⟩⟩,rX rfl (bF ?_)⟩⟩⟩)))
   refine(rX rfl (rM g.b kW rfl i3 rfl (rX rfl ⟨g,B,y.au,y,rfl,R2,ok,hy,rX rfl ⟨ad y.num,rX rfl ⟨cg ox rfl,_,_,rfl,.inl ⟨rfl,.inl ⟨_,rfl⟩⟩,rX rfl (bF ?_)⟩⟩⟩)))
   exact⟨_,_,_,_,_,_,rfl,rfl⟩
  ·rintro σ H' ⟨z2,z3,z4,z5,z6,z7,rfl,rfl⟩
   subst hT
   have isl:sP K H' (oV B.last) (oV W.last):=by
    rw[wb.la]
    cases B.last with
    |none=>exact .inl ⟨rfl,.inr (.inl rfl)⟩
    |some l=>exact .inl ⟨rfl,.inl ⟨l,rfl⟩⟩
   refine(rX rfl (rM g.b kW rfl i3 rfl ⟨g,B,rfl,R2,rX rfl ⟨wa,rX rfl ⟨kQ.wg (Ot W lo),_,_,rfl,isl,rX rfl (bF ?_)⟩⟩⟩))
   refine(rX rfl (rM g.b kW rfl i3 rfl ⟨g,B,rfl,R2,rX rfl ⟨wa,rX rfl ⟨kQ.wg (Mm W lo),_,_,rfl,.inl ⟨by rw[wb.vo],.inl ⟨_,rfl⟩⟩,rX rfl (bF ?_)⟩⟩⟩))
   refine(rX rfl (rM g.b kW rfl i3 rfl ⟨g,B,rfl,R2,rX rfl ⟨wa,rX rfl ⟨kQ.wg (uA W lo),_,_,rfl,.inl ⟨by rw[wb.cl],.inr (.inr (.inl ⟨_,rfl⟩))⟩,q _ ug⟩⟩⟩))
end
open PySem L2
theorem Xx:B0.Ok:=by
 refine⟨λb=>?_,λb e he=>?_,λb=>?_,λe he=>?_,λb e he=>?_,λb e he=>?_,by decide,by decide⟩
 ·cases b<;>exact List.Pairwise.nil
 ·cases b<;>exact absurd he (by simp[Bk.at,B0])
 ·cases b<;>exact sC
 ·exact absurd he (by simp[B0])
 ·cases b<;>exact absurd he (by simp[Bk.at,B0])
 ·cases b<;>exact absurd he (by simp[Bk.at,B0])
theorem Xy:B0.Pos:=⟨λb e he=>by cases b<;>exact absurd he (by simp[Bk.at,B0])⟩
theorem qi.keep(h:qi H v f_)(kt:∀x xs,H x=some (.tup xs)->H' x=some (.tup xs))(kl:∀x xs,H x=some (.lst xs)->H' x=some (.lst xs)):qi H' v f_:=by
 cases f_ with
 |str x=>exact h
 |num k=>exact h
 |aE=>exact h
 |placed k aS=>
  obtain⟨t,l,ts,rfl,h1,h2,h3,h4⟩:=h
  exact⟨t,l,ts,rfl,kt _ _ h1,kl _ _ h2,Paired.eJ h3 λv ev ⟨z,e1,e2⟩=>⟨z,e1,kt _ _ e2⟩,h4⟩
 |mZ p ts=>
  obtain⟨l,tv,rfl,h1,h2,h3⟩:=h
  exact⟨l,tv,rfl,kl _ _ h1,Paired.eJ h2 λv t ⟨z,e1,e2⟩=>⟨z,e1,kt _ _ e2⟩,h3⟩
structure Lq(c:Cs)(H0:Hp)(sa:Addr)(g:Ga)(B:Bk)(wa lo:Addr)(ad:Int->Addr)(W:Ws)(H:Hp):Prop where
 R:Rep c H g B
 ok:B.Ok
 ps:B.Pos
 RW:bP H wa lo ad W
 wb:WB W B
 wp:Wp W
 ow:∀x,cf wa lo ad W x->¬bI g B x/\x≠g.ds
 kp:∀o,H0 sa=some o->H sa=some o/\¬bI g B sa/\¬cf wa lo ad W sa
section
variable {H0:Hp} {sa:ah} {W:Ws}
theorem Lq.same(l:Lq c H0 sa g B wa lo ad W H)(s:aL H H'):Lq c H0 sa g B wa lo ad W H':=⟨aL.rep s l.R,l.ok,l.ps,l.RW.same s,l.wb,l.wp,l.ow,λo ho=>⟨s _ _ (l.kp o ho).1,(l.kp o ho).2⟩⟩
theorem Lq.seq{xs:aa V}(l:Lq c H0 sa g B wa lo ad W H)(h:aK K H0 sa xs):aK K H sa xs:=h.keep λo ho=>(l.kp o ho).1
theorem Lq.next{H2:Hp}{B2:Bk}{cj:ah}{iE:Int->ah}{W':Ws}{dd:Dd}{ia:iU}(l:Lq c H0 sa g B wa lo ad W H)(hc:B.aG<=30)(d1:fY B dd f_ B1)(R1:Rep c H' g B1)(bD:B1.Ok)(jw:B1.Pos)(fr:Fr H g B H' B1)
  (d2:fY B dd ia B2) (ij:B2.Ok) (iP:WB W' B2) (m6:Wp W') (kQ:bP H2 wa cj iE W') (fw:cM wa H' lo ad W H2 cj iE W'):iU.rf f_ ia/\Lq c H0 sa g B1 wa cj iE W' H2:=by
 obtain⟨rf,W0,w1,w2⟩:=d1.one d2 l.ok l.ps hc bD ij
 have CB:bP H' wa lo ad W:=l.RW.keep λx o hx ho=>fr.kp x o hx (l.ow x ho).1
 have SF:∀x,cf wa lo ad W x->¬bI g B1 x:=λx hx f=>by
  rcases fr.ft x f with z|z
  ·exact(l.ow x hx).1 z
  ·obtain⟨o,ho,_⟩:=Ol l.RW hx
   rw[ho]at z
   cases z
 have Rf:Rep c H2 g B1:=by
  refine R1.off (O:=λx=>cf wa lo ad W x/\x≠lo) (λx hx=>⟨?_,SF x hx.1,(l.ow x hx.1).2⟩) λx o hx hn=>?_
  ·obtain⟨h1,h2⟩:=hx
   rcases h1 with rfl|rfl| ⟨e,he,rfl⟩
   ·exact⟨_,CB.w,rfl⟩
   ·exact absurd rfl h2
   ·exact⟨_,(CB.o e he).1,rfl⟩
  ·by_cases h1:cf wa lo ad W x
   ·by_cases h2:x=lo
    ·have hl:=CB.l
     rw[h2]at hx
     rw[hl]at hx
     obtain rfl:=cq hx
     rw[h2]
     exact fw.li _ _ hl
    ·exact absurd ⟨h1,h2⟩ hn
   ·exact fw.kp x o hx h1
 refine⟨rf,Rf,bD,jw,kQ,w2.swap w1 iP,m6,λx hx=>?_,λo ho=>?_⟩
 ·rcases fw.ft x hx with z|z
  ·exact⟨SF x z,(l.ow x z).2⟩
  ·refine⟨λf=>?_,λe=>?_⟩
   ·obtain⟨v,hv⟩:=rK R1 f
    rw[z]at hv
    cases hv
   ·have:=R1.ds
    rw[e]at z
    rw[z]at this
    cases this
 ·obtain⟨h1,h2,h3⟩:=l.kp o ho
  have h4:=fr.kp _ _ h1 h2
  refine⟨fw.kp _ _ h4 h3,λf=>?_,λz=>?_⟩
  ·rcases fr.ft _ f with z|z
   ·exact h2 z
   ·rw[h1]at z;cases z
  ·rcases fw.ft _ z with z|z
   ·exact h3 z
   ·rw[h4]at z;cases z
end
section
variable {bW:ah} {a:c_} {n:fe} {u:fF} {e:gI} {r:iC}
theorem rp:bc ["_law_script","_law_book","_law_world","_law_k","_law_deed_here","_law_one"] ["_law_script"] (aX Lz):=bw
inductive AU(K:W.Frag)(vs:List V)(H:Hp)(Q:VK)(_:XK):Prop
 |mk (s:Addr) (ns:List Int) (_:vs= [.ref s]) (_:aK K H s (ns.map V.int)) (_:ns.length<=63) (_:∀H',Q (.bl true) H')
theorem abH(T:fP K mg bo nt nn be)(O:jJ K mg bW gw)(C:bR K mg c)(F:da K mg a c)(D:oY K mg d)(M:qk K mg m)(N:jl K mg c n)(U:jK K mg u)(Z:jL mg)(L:nr K mg bo nt nn be e)(I:vi K)(Wt:eE K mg c r)(G:dq K "law" "law" Lz f fd):
  cJ P w K mg base (cI P w) 9 f fd ["_law_script"] (AU K):=by
 obtain⟨cK,G1,b1,k1⟩:=zkr (P:=P) (w:=w) (base:=base) C F
 obtain⟨dG,G2,b2,k2⟩:=Fl (P:=P) (w:=w) (base:=base) C L
 obtain⟨gY,G3,b3,k3⟩:=abB (P:=P) (w:=w) (base:=base) C L
 obtain⟨kX,G4,b4,k4⟩:=abr (P:=P) (w:=w) (base:=base) T O C F D M N U Z L
 obtain⟨mh,G5,b5,k5⟩:=abQ (P:=P) (w:=w) (base:=base) Wt
 obtain⟨PH,G6,b6,k6⟩:=OK (P:=P) (w:=w) (base:=base) Wt
 obtain⟨PJ,G7,b7,k7⟩:=RL (P:=P) (w:=w) (base:=base) L I Wt
 obtain⟨Yu,G8,b8,k8⟩:=abD (P:=P) (w:=w) (base:=base) C Z Wt
 obtain⟨Yv,G9,b9,k9⟩:=abY (P:=P) (w:=w) (base:=base) T C F N U Z L I Wt
 refine G.bT rp λ_ _ _ _ H _ _ _ hr h=>?_
 obtain⟨sa,ns,rfl,hS,hlen,q⟩:=h
 have ET:bB 5 _:=hr.mono (by decide)
 have wN:bB 4 _:=hr.mono (by decide)
 have di:bB 2 _:=hr.mono (by decide)
 have b_:bB 1 _:=hr.mono (by decide)
 have hu:=fc hr
 refine⟨_,az (aZ 1 rp.nd (VP F.Sr G1 wN rfl C.mgB b1 .nil cO))
  (az (aZ 2 rp.nd (adR G5 b_ rfl Wt.P_ k5 b5 .nil cO))
  (az (oI jG rfl (Vs (by rfl) L.DP (av (ba e_ (bG G2 di L.qz k2 b2 (av (pv 0) (av aF ay))) aF) ay)) (eO (i:=3) rp.nd rfl (Or.inl rfl))
   (az (aZ 4 rp.nd (bG G3 wN L.P2 k3 b3 (av (pv 0) (av (ba gR aF (ba yz aF (pv 3))) ay))))
   (az (m9 (aZ 5 rp.nd (rS (bC cQ (cv (r:=dC K) dI (pv 4) aF (λ_ _=>rfl)) aJ (a9 _)) (bG G6 b_ Wt.ph k6 b6 (av (pv 2) (av (cv (r:=dC K) dI (pv 4) aF (λ_ _=>rfl)) ay))) g_)))
   (az (m9 (bK (PW.pt (iR (gB (rP (pv 5))) (jD (bC cQ (ba e_ (bG G2 di L.qz k2 b2 (av (pv 0) (av (ba kJ aF (pv 3)) ay))) aF) aF (a9 _))))) (aD (aZ 4 rp.nd (eM (av aJ (av (cv (r:=dC K) dI (pv 4) aF (λ_ _=>rfl)) (av (a_ hu (pv 5)) ay)))))) bZ))
   (aD (bK (PW.pt (jE (jd (e8 (bG G7 b_ Wt.qy k7 b7 (av (bG G4 hr L.PU k4 b4 (av (pv 1) (av (pv 4) ay))) (av (bG G8 ET Wt.P4 k8 b8 (av (pv 2) (av (pv 4) ay))) ay)))))
    (jz (jd (e8 (bG G9 wN Wt.Qb k9 b9 (av (pv 1) (av (pv 2) ay)))))))) (aD (a8 iA)) bZ))))))
  (aD (a8 iA)))),?_⟩
 intro p dx hp Zp dc
 refine⟨p,dx,rfl,aB,λg H1 hg R1 tS ic=>⟨rfl,?_⟩⟩
 subst hg
 refine⟨rfl,λwa Fp H2 s2 hwa QP kQ=>?_⟩
 have Se:Lq c H sa g B0 wa Fp (λ_=>0) W0 H2:=by
  have FR:∀x,cf wa Fp (λ_=>0) W0 x->H1 x=none:=λx hx=>by
   rcases hx with rfl|rfl| ⟨e,he,_⟩
   ·exact hwa
   ·exact QP
   ·exact absurd he (by simp[W0])
  refine⟨aL.rep s2 R1,Xx,Xy,kQ,⟨.refl _,rfl,rfl,rfl,rfl,rfl⟩,⟨fM _,λx hx=>absurd hx (by simp[W0]),sC⟩,λx hx=>⟨λf=>?_,λz=>?_⟩,λo ho=>?_⟩
  ·obtain⟨v,hv⟩:=rK R1 f
   rw[FR x hx]at hv
   cases hv
  ·have h1:=R1.ds
   have h2:=FR x hx
   rw[z,h1]at h2
   cases h2
  ·have n1:sa≠g.b:=a6 ho hp
   have h1:upd (upd H dx (.own g.b)) g.b (.ins c.B dx []) sa=some o:=by
    rw[aw n1,aw (a6 ho Zp)]
    exact ho
   have h2:=tS sa o h1 n1
   refine⟨s2 _ _ h2,λf=>?_,λw=>?_⟩
   ·rcases ic sa f with z|z
    ·exact n1 z
    ·rw[h1]at z
     cases z
   ·rw[FR sa w]at h2
    cases h2
 refine(rX rfl ⟨sa,ns,0,rfl,Se.seq hS,λv h0 h1=>(r2 rfl rfl ⟨(by show(0:Int)<25;decide),rX rfl ⟨(by omega),(by omega),?_⟩⟩)⟩)
 have aki:(v % 25).toNat<=24:=by omega
 refine zkH (lo:=0) (n:=(v % 25).toNat) (λi σ H'=>∃(B:Bk) (W:Ws) (lo:ah) (ad:Int->ah) (x3 x4 x5:ae V),σ= [some (.ref sa),some (.ref g.b),some (.ref wa),x3,x4,x5]/\Lq c H sa g B wa lo ad W H'/\B.aG<=i)
  ⟨B0,W0,Fp,_,none,none,none,rfl,Se,by decide⟩ ?_ ?_
 ·rintro i σ H' hi ⟨B,W,lo,ad,x3,x4,x5,rfl,lq,hle⟩
  refine(rX rfl (rX rfl (r2 rfl rfl ⟨.inl ⟨by decide,by decide⟩,r2 rfl rfl ⟨sa,ns,_,rfl,lq.seq hS,λdd t H3 dY s3 _ ht=>?_⟩⟩)))
  replace lq:=lq.same s3
  refine⟨λσ H'=>∃z5:V,σ= [some (.ref sa),some (.ref g.b),some (.ref wa),some (.int (0+(i:Int))),some (.ref t),some z5]/\aL H3 H'/\(z5= .aE\/∃k j x,dd= .ch k j/\x∈W.es/\x.num=k/\z5= .ref (ad k)),?_,?_⟩
  ·cases dd with
   |pl ow b pr many shows way=>
    have ht:H3 t=some (.tup [.str "place",.int ow,.str (aH b),oV pr,.int many,oV shows,.str way]):=ht
    exact(rX rfl (rT t 0 rfl rfl (aM.of ht) (bf (j:=0) rfl) ⟨rfl,rX rfl (bj rfl (rX rfl ⟨aL.refl _,.inl rfl⟩))⟩))
   |ca k j=>
    have ht:H3 t=some (.tup [.str "cancel",.int k,.int j]):=ht
    exact(rX rfl (rT t 0 rfl rfl (aM.of ht) (bf (j:=0) rfl) ⟨rfl,rX rfl (bj rfl (rX rfl ⟨aL.refl _,.inl rfl⟩))⟩))
   |ch k j=>
    have ht:H3 t=some (.tup [.str "change",.int k,.int j]):=ht
    exact(rX rfl (rT t 0 rfl rfl (aM.of ht) (bf (j:=0) rfl) ⟨rfl,rX rfl (bY rfl (rX rfl (rX rfl (rT t 1 rfl rfl (aM.of ht) (bf (j:=1) rfl) ⟨wa,lo,ad,W,k,rfl,lq.RW,λx hx qV H4 s4=>(rX rfl ⟨s4,.inr ⟨k,j,x,rfl,hx,qV,rfl⟩⟩),λdh H4 s4=>(rX rfl ⟨s4,.inl rfl⟩)⟩))))⟩))
   |cl us=>
    have ht:H3 t=some (.tup (.str "call"::us)):=ht
    exact(rX rfl (rT t 0 rfl rfl (aM.of ht) (bf (j:=0) rfl) ⟨rfl,rX rfl (bj rfl (rX rfl ⟨aL.refl _,.inl rfl⟩))⟩))
   |un k j=>
    have ht:H3 t=some (.tup [.str "uncross",.int k,.int j]):=ht
    exact(rX rfl (rT t 0 rfl rfl (aM.of ht) (bf (j:=0) rfl) ⟨rfl,rX rfl (bj rfl (rX rfl ⟨aL.refl _,.inl rfl⟩))⟩))
  rintro σ H4 ⟨z5,rfl,s4,hz5⟩
  replace lq:=lq.same s4
  replace ht:=s4 _ _ ht
  clear s3 s4
  refine⟨λσ H'=>∃(t':ah) (gX:Dd),σ= [some (.ref sa),some (.ref g.b),some (.ref wa),some (.int (0+(i:Int))),some (.ref t'),some z5]/\aL H4 H'/\H' t'=some (.tup gX.vals)/\gX.Ok,?_,?_⟩
  ·rcases hz5 with rfl| ⟨k,j,x,rfl,hx,rfl,rfl⟩
   ·exact(rX rfl (rX rfl (bj rfl (bF ⟨t,dd,rfl,aL.refl _,ht,dY⟩))))
   ·refine(rX rfl (rX rfl (bY rfl (rX rfl (rX rfl (r2 rfl rfl ⟨sa,ns,_,rfl,lq.seq hS,λv2 h20 h21=>(r2 rfl rfl ⟨(by show(0:Int)<2;decide),rfl,rX rfl ?_⟩)⟩))))))
    have ht:H4 t=some (.tup [.str "change",.int x.num,.int j]):=ht
    obtain⟨i5,_⟩:=lq.RW.o x hx
    by_cases h2:v2 % 2=0
    ·refine bY (by show decide (V.int (v2 % 2)=V.int 0)=true;rw[h2];simp) (rX rfl (rT t 1 rfl rfl (aM.of ht) (bf (j:=1) rfl) (rX rfl ⟨ad x.num,rX rfl ⟨cg i5 rfl,dM 3 rfl,λt2 E1=>⟨t2,.ch x.num x.left,rfl,aQ E1,aB,?_⟩⟩⟩)))
     obtain⟨y,hy,rfl⟩:=A3 lq.wb lq.ok hx
     have pl:=lq.ps.ps _ y hy
     have dY:0<=y.er.num/\y.er.num<=15/\0<=j/\j<=10001:=dY
     show 0<=y.er.num/\y.er.num<=15/\0<=y.left/\y.left<=10001
     omega
    ·exact bj (by show decide (V.int (v2 % 2)=V.int 0)=false;simp[h2]) ⟨t,.ch x.num j,rfl,aL.refl _,ht,dY⟩
  rintro σ H5 ⟨t',gX,rfl,s5,E2,Qt⟩
  replace lq:=lq.same s5
  refine(rX rfl (rX rfl ⟨g,B,t',gX,rfl,lq.R,lq.ok,lq.ps,by omega,E2,Qt,λfv f_ B1 H6 d1 Xv R6 ok6 ps6 iK vK=>?_⟩))
  have O3:bP H6 wa lo ad W:=lq.RW.keep λx o hx ho=>vK.kp x o hx (lq.ow x ho).1
  refine(rX rfl (rX rfl ⟨wa,lo,ad,W,B,t',gX,rfl,O3,lq.wb,lq.ok,lq.ps,by omega,lq.wp,vK.kp _ _ E2 (oQ lq.R 7 E2),Qt,λuv ia B2 cj iE W' H7 d2 Xw ij iP m6 CC DF=>?_⟩))
  obtain⟨rf,rg⟩:=lq.next (by omega) d1 R6 ok6 ps6 vK d2 ij iP m6 CC DF
  have isv:sP K H7 fv uv:=Xp (Xv.keep (λx xs h=>DF.kp _ _ h (yo O3 h)) DF.li) Xw rf
  refine⟨fv,uv,rfl,isv,_,rfl,bF ?_⟩
  refine(rX rfl (rX rfl ⟨g,wa,cj,iE,W',B1,rfl,rg.R,rg.RW,rg.wb,rg.ok,rg.ps,rg.wp,λH8 s8=>(rX rfl (bF ?_))⟩))
  exact⟨B1,W',cj,iE,_,_,_,rfl,rg.same s8,by omega⟩
 ·rintro σ H' _
  exact q _
end
open PySem L2
theorem qr{ps:aa Str}{lH:Array (ae af)}{kV:af}(l:K.lookup f=some ⟨oc,od,.func (W.fnOf x qual (uK st) (m7 st) (aX st) .none kV doc pm an cF ct),lH⟩)
  (c:W.codeIn K cF qual=true) (k:W.keepIn K (.ref f)=true)
  (h:∀(kV doc pm:af) (an:ae ah) (cF ct:af) (us:aa af),us.length=ps.length->bindArgs (W.fnOf x qual (uK st) (m7 st) (aX st) .none kV doc pm an cF ct) ⟨us,[]⟩=pure (ps.zip us)):Dn K x qual st f ps:=
 ⟨_,PR l c k,(PR l c k).binds h⟩
theorem TR{its:Array af}{sl:Array (ae af)}{xs:aa V}(l:K.lookup a=some ⟨.type "tuple",od,.seq its n,sl⟩)(hz:its.size<=sizeLine)(r:Vals xs its.toList):∀H,aM K H a xs:=
 λ_=>.inr ⟨_,its,n,l,rfl,rfl,hz,r⟩
theorem all_mk{l:W.OpenLaw}{w:World}{fa f bo nt nn be bW gw CG CH CI CJ CK CL CM CN CO CP CQ CS CT CU CV CW CY CZ C0 C2 C3 C4 dQ jM nE jn De Df Dg Dh Di Dj Ds Dt Du Dv Dw Fz FA FD FE FF FG FH FI K6 K7 K8 K9 K_ La Lb Lc Ld Le Lf Lg Lh Li Lj Lk Ll Lm Ln Lo Lp Lr Ls Lu Mc Md Me Mf Mg Mh Mi Mj:ah}{tg tm:Tok}(X:K.In h)(G:h.Ns mainGlobals mg)(D9:mg "law"=some (.ref fa))
  (FW:W.nsIn K mainGlobals "BadOrder"=some (some (.ref bo)))
  (FX:W.nsIn K mainGlobals "NotThere"=some (some (.ref nt)))
  (FY:W.nsIn K mainGlobals "NotNow"=some (some (.ref nn)))
  (FZ:W.nsIn K mainGlobals "BookError"=some (some (.ref be)))
  (F_:W.nsIn K mainGlobals "SIDES"=some (some (.ref bW)))
  (Gb:W.nsIn K mainGlobals "WAYS"=some (some (.ref gw)))
  (Gd:W.nsIn K mainGlobals "Order"=some (some (.ref jn)))
  (Ge:W.nsIn K mainGlobals "Numbering"=some (some (.ref nE)))
  (Gf:W.nsIn K mainGlobals "Entry"=some (some (.ref jM)))
  (Gg:W.nsIn K mainGlobals "Book"=some (some (.ref dQ)))
  (Gh:W.nsIn K mainGlobals "OTHER_SIDE"=some (some (.ref Di)))
  (Gi:W.nsIn K mainGlobals "check_side"=some (some (.ref CL)))
  (Gj:W.nsIn K mainGlobals "check_way"=some (some (.ref CM)))
  (Gk:W.nsIn K mainGlobals "check_price"=some (some (.ref CJ)))
  (Gm:W.nsIn K mainGlobals "check_many"=some (some (.ref CI)))
  (Gn:W.nsIn K mainGlobals "check_shows"=some (some (.ref CK)))
  (Gp:W.nsIn K mainGlobals "suits"=some (some (.ref C3)))
  (Gq:W.nsIn K mainGlobals "find_rank"=some (some (.ref CP)))
  (Gr:W.nsIn K mainGlobals "place"=some (some (.ref Dj)))
  (Gs:W.nsIn K mainGlobals "may_meet"=some (some (.ref Df)))
  (Gu:W.nsIn K mainGlobals "count_suiting"=some (some (.ref De)))
  (Gv:W.nsIn K mainGlobals "meet_all"=some (some (.ref Dg)))
  (Gw:W.nsIn K mainGlobals "next_to_meet"=some (some (.ref Dh)))
  (Gx:W.nsIn K mainGlobals "meet"=some (some (.ref FA)))
  (Gy:W.nsIn K mainGlobals "lessen"=some (some (.ref Fz)))
  (Gz:W.nsIn K mainGlobals "cancel"=some (some (.ref FE)))
  (GA:W.nsIn K mainGlobals "change"=some (some (.ref FF)))
  (GB:W.nsIn K mainGlobals "call"=some (some (.ref FD)))
  (GC:W.nsIn K mainGlobals "lessen_in_place"=some (some (.ref Me)))
  (GD:W.nsIn K mainGlobals "trade_at"=some (some (.ref Mg)))
  (GF:W.nsIn K mainGlobals "uncross"=some (some (.ref Mh)))
  (GG:W.nsIn K mainGlobals "call_price"=some (some (.ref Mc)))
  (GH:W.nsIn K mainGlobals "weigh_prices"=some (some (.ref Mj)))
  (GI:W.nsIn K mainGlobals "left_by_price"=some (some (.ref Md)))
  (GJ:W.nsIn K mainGlobals "weigh"=some (some (.ref Mi)))
  (GK:W.nsIn K mainGlobals "sum_by_price"=some (some (.ref Mf)))
  (GL:W.nsIn K mainGlobals "_law_cell"=some (some (.ref Dt)))
  (GN:W.nsIn K mainGlobals "_law_mix"=some (some (.ref Dv)))
  (GO:W.nsIn K mainGlobals "_law_price"=some (some (.ref Dw)))
  (GP:W.nsIn K mainGlobals "_law_deed"=some (some (.ref Du)))
  (GQ:W.nsIn K mainGlobals "_law_asked"=some (some (.ref Ds)))
  (GR:W.nsIn K mainGlobals "_law_new"=some (some (.ref Lk)))
  (GU:W.nsIn K mainGlobals "_law_first"=some (some (.ref Lb)))
  (GV:W.nsIn K mainGlobals "_law_side"=some (some (.ref Lp)))
  (GW:W.nsIn K mainGlobals "_law_put"=some (some (.ref Lm)))
  (GX:W.nsIn K mainGlobals "_law_show"=some (some (.ref Lo)))
  (GY:W.nsIn K mainGlobals "_law_gone"=some (some (.ref Lc)))
  (GZ:W.nsIn K mainGlobals "_law_suits"=some (some (.ref Lr)))
  (G0:W.nsIn K mainGlobals "_law_find"=some (some (.ref La)))
  (G_:W.nsIn K mainGlobals "_law_good"=some (some (.ref Ld)))
  (Ha:W.nsIn K mainGlobals "_law_meet"=some (some (.ref Lj)))
  (Hb:W.nsIn K mainGlobals "_law_place"=some (some (.ref Ll)))
  (Hc:W.nsIn K mainGlobals "_law_cancel"=some (some (.ref K8)))
  (Hd:W.nsIn K mainGlobals "_law_change"=some (some (.ref K9)))
  (He:W.nsIn K mainGlobals "_law_wanted"=some (some (.ref Lu)))
  (Hf:W.nsIn K mainGlobals "_law_call_price"=some (some (.ref K7)))
  (Hg:W.nsIn K mainGlobals "_law_uncross"=some (some (.ref Ls)))
  (Hh:W.nsIn K mainGlobals "_law_call"=some (some (.ref K6)))
  (Hi:W.nsIn K mainGlobals "_law_done"=some (some (.ref K_)))
  (Hj:W.nsIn K mainGlobals "_law_is"=some (some (.ref Le)))
  (Hk:W.nsIn K mainGlobals "_law_same"=some (some (.ref Ln)))
  (Hl:Mk K jn CU)
  (Hm:Mk K nE CT)
  (Hn:Meth K nE "admit" CG)
  (Ho:Mk K jM CN)
  (Hq:Meth K jM "show_again" C0)
  (Hr:Meth K jM "stand_at" C2)
  (Hs:Mk K dQ CH)
  (Ht:Meth K dQ "resting" CZ)
  (Hu:Meth K dQ "is_calling" CS)
  (Hv:Meth K dQ "entries_of" CO)
  (Hw:Meth K dQ "first" CQ)
  (Hy:Meth K dQ "put" CV)
  (Hz:Meth K dQ "take_out" C4)
  (HA:Meth K dQ "put_anew" CW)
  (HB:Meth K dQ "record_trade" CY)
  (HC:Meth K dQ "entry_of" FG)
  (HD:Meth K dQ "is_crossed" FH)
  (HE:Meth K dQ "last" FI)
  (HF:Meth K dQ "left" Lg)
  (HG:Meth K dQ "shown" Lh)
  (HH:Meth K dQ "volume" Li)
  (HI:Meth K dQ "depth" Lf)
  (HJ:Dn K "check_side" "check_side" xT CL ["side"])
  (HK:Dn K "check_way" "check_way" x8 CM ["way"])
  (HL:Dn K "check_price" "check_price" xW CJ ["price","way"])
  (HM:Dn K "check_many" "check_many" xU CI ["many"])
  (HN:Dn K "check_shows" "check_shows" xV CK ["shows","many","way"])
  (HP:Dn K "suits" "suits" BK C3 ["price","order"])
  (HQ:Dn K "find_rank" "find_rank" AI CP ["entries","rank"])
  (HR:Dn K "place" "place" OB Dj ["book","owner","side","price","many","shows","way"])
  (HS:Dn K "may_meet" "may_meet" LD Df ["book","order"])
  (HU:Dn K "count_suiting" "count_suiting" Og De ["book","order"])
  (HV:Dn K "meet_all" "meet_all" NA Dg ["book","coming"])
  (HW:Dn K "next_to_meet" "next_to_meet" LH Dh ["book","coming"])
  (HX:Dn K "meet" "meet" LF FA ["book","coming","other"])
  (HY:Dn K "lessen" "lessen" N1 Fz ["book","other","many"])
  (HZ:Dn K "cancel" "cancel" N8 FE ["book","number"])
  (H_:Dn K "change" "change" N7 FF ["book","number","many"])
  (Ia:Dn K "call" "call" Lx FD ["book"])
  (Ib:Dn K "lessen_in_place" "lessen_in_place" N2 Me ["book","entry","many"])
  (Ie:Dn K "trade_at" "trade_at" Nw Mg ["book","price","many"])
  (Ig:Dn K "uncross" "uncross" Nv Mh ["book"])
  (Ih:Dn K "call_price" "call_price" MH Mc ["book"])
  (Ii:Dn K "weigh_prices" "weigh_prices" MC Mj ["book"])
  (Ij:Dn K "left_by_price" "left_by_price" N3 Md ["book","side"])
  (Ik:Dn K "weigh" "weigh" Oz Mi ["price","demand","supply","last_price"])
  (Il:Dn K "sum_by_price" "sum_by_price" LJ Mf ["pairs"])
  (Im:Dn K "_law_cell" "_law_cell" NL Dt ["_law_script","_law_k"])
  (Io:Dn K "_law_mix" "_law_mix" N6 Dv ["_law_script","_law_k"])
  (Ip:Dn K "_law_price" "_law_price" MF Dw ["_law_script","_law_k"])
  (Iq:Dn K "_law_deed" "_law_deed" NK Du ["_law_script","_law_k"])
  (Ir:Dn K "_law_asked" "_law_asked" MX Ds ["_law_book","_law_deed_here"])
  (Iu:Dn K "_law_new" "_law_new" N5 Lk [])
  (Iv:Dn K "_law_first" "_law_first" MW Lb ["_law_one"])
  (Iw:Dn K "_law_side" "_law_side" NB Lp ["_law_world","_law_side_here"])
  (Iy:Dn K "_law_put" "_law_put" N4 Lm ["_law_world","_law_one"])
  (Iz:Dn K "_law_show" "_law_show" NC Lo ["_law_one"])
  (IA:Dn K "_law_gone" "_law_gone" NH Lc ["_law_world","_law_number"])
  (IB:Dn K "_law_suits" "_law_suits" ME Lr ["_law_side_here","_law_limit","_law_price_here"])
  (IC:Dn K "_law_find" "_law_find" NI La ["_law_world","_law_number"])
  (ID:Dn K "_law_good" "_law_good" NG Ld ["_law_side_here","_law_price_here","_law_many","_law_shows","_law_way"])
  (IE:Dn K "_law_meet" "_law_meet" NF Lj ["_law_world","_law_new_here","_law_others"])
  (IF:Dn K "_law_place" "_law_place" MG Ll ["_law_world","_law_owner","_law_side_here","_law_price_here","_law_many","_law_shows","_law_way"])
  (IG:Dn K "_law_cancel" "_law_cancel" MP K8 ["_law_world","_law_number"])
  (IH:Dn K "_law_change" "_law_change" MO K9 ["_law_world","_law_number","_law_many"])
  (II:Dn K "_law_wanted" "_law_wanted" MN Lu ["_law_world","_law_side_here","_law_price_here"])
  (IJ:Dn K "_law_call_price" "_law_call_price" MB K7 ["_law_world"])
  (IK:Dn K "_law_uncross" "_law_uncross" Mx Ls ["_law_world"])
  (IL:Dn K "_law_call" "_law_call" NM K6 ["_law_world"])
  (IM:Dn K "_law_done" "_law_done" NJ K_ ["_law_world","_law_deed_here"])
  (IP:Dn K "_law_is" "_law_is" OC Le ["_law_found","_law_due"])
  (IQ:Dn K "_law_same" "_law_same" ND Ln ["_law_book","_law_world"])
  (IS:Dn K "__init__" "Order.__init__" A9 CU ["self","owner","side","price","many","shows","way"])
  (IT:Dn K "__init__" "Numbering.__init__" Bn CT ["self"])
  (IU:Dn K "admit" "Numbering.admit" BM CG ["self","order"])
  (IV:Dn K "__init__" "Entry.__init__" Bo CN ["self","order"])
  (IW:Dn K "show_again" "Entry.show_again" AJ C0 ["self"])
  (IX:Dn K "stand_at" "Entry.stand_at" BL C2 ["self","place"])
  (IY:Dn K "__init__" "Book.__init__" MY CH ["self"])
  (IZ:Dn K "resting" "Book.resting" Ny CZ ["self","side"])
  (I0:Dn K "is_calling" "Book.is_calling" MQ CS ["self"])
  (I_:Dn K "entries_of" "Book.entries_of" MR CO ["self","side"])
  (Ja:Dn K "first" "Book.first" OD CQ ["self","side"])
  (Jb:Dn K "put" "Book.put" LI CV ["self","entry"])
  (Jc:Dn K "take_out" "Book.take_out" Nx C4 ["self","entry"])
  (Jd:Dn K "put_anew" "Book.put_anew" Nz CW ["self","entry"])
  (Je:Dn K "record_trade" "Book.record_trade" N0 CY ["self","price","many"])
  (Jf:Dn K "entry_of" "Book.entry_of" NN FG ["self","number"])
  (Jg:Dn K "is_crossed" "Book.is_crossed" UJ FH ["self"])
  (Jh:Dn K "last" "Book.last" Ly FI ["self"])
  (Ji:Dn K "left" "Book.left" LA Lg ["self","number"])
  (Jj:Dn K "shown" "Book.shown" OA Lh ["self","number"])
  (Jk:Dn K "volume" "Book.volume" NZ Li ["self"])
  (Jl:Dn K "depth" "Book.depth" Of Lf ["self","side"])
  (Jm:W.nsIn K mainGlobals "law"=some (some (.ref f)))
  (Jn:Dn K "law" "law" Lz f ["_law_script"])
  (Jo:W.nsIn K mainGlobals "GREATEST_PRICE"=some (some (.int 1000000000 tg)))
  (Jp:W.nsIn K mainGlobals "MOST_WANTED"=some (some (.int 10000 tm)))
  (Jq:∀H,aM K H bW [.str "buy",.str "sell"])
  (Jr:∀H,aM K H gw [.str "rest",.str "now",.str "whole"])
  (Js:iD K bo)
  (Jt:iD K nt)
  (Ju:iD K nn)
  (Jv:iD K be)
  (Jw:fE K jn)
  (Jx:fE K nE)
  (Jy:fE K jM)
  (Jz:fE K dQ)
  (JA:cz K jn "owner")
  (JB:cz K jn "side")
  (JC:cz K jn "price")
  (JD:cz K jn "many")
  (JE:cz K jn "shows")
  (JF:cz K jn "way")
  (JG:cz K jn "number")
  (JH:cz K nE "came")
  (JI:cz K jM "order")
  (JJ:cz K jM "remaining")
  (JK:cz K jM "showing")
  (JL:cz K jM "rank")
  (JM:cz K dQ "numbering")
  (JN:cz K dQ "sides")
  (JO:cz K dQ "entries")
  (JP:cz K dQ "places")
  (JQ:cz K dQ "calling")
  (JR:cz K dQ "last_price")
  (JS:cz K dQ "traded")
  (JT:W.nsIn K mainGlobals "int"=some none)
  (JU:W.nsIn K mainGlobals "min"=some none)
  (JV:W.nsIn K mainGlobals "len"=some none)
  (JW:W.nsIn K mainGlobals "list"=some none)
  (JX:W.nsIn K mainGlobals "isinstance"=some none)
  (JY:W.nsIn K mainGlobals "ValueError"=some none)
  (JZ:W.nsIn K mainGlobals "bool"=some none)
  (J0:W.nsIn K mainGlobals "str"=some none)
  (J1:W.nsIn K mainGlobals "tuple"=some none)
  (J2:W.nsIn K mainGlobals "range"=some none)
  (J3:W.nsIn K mainGlobals "abs"=some none)
  (J4:W.nsIn K mainGlobals "sum"=some none)
  (J5:W.nsIn K mainGlobals "set"=some none)
  (J6:W.nsIn K mainGlobals "sorted"=some none)
  (J7:PyProof.Rows.KTD.tabLook (PyProof.Rows.KTD.datLooks λb=>K.lookup b) (λb=>K.lookup b) Di BS=true)
  (J_:W.findIn K (.ref bo) "__getattribute__"=some (some (.builtin "BaseException.__getattribute__")))
  (Ka:W.findIn K (.ref bo) "__getattr__"=some none)
  (Kb:W.findIn K (.ref bo) "__class__"=some (some (.builtin "object.__class__")))
  (Kc:W.mroIn K bo (.type "BaseException")=some true)
  (Kd:W.mroIn K bo (.type "object")=some true)
  (Ke:W.mroIn K bo (.ref be)=some true)
  (Kf:W.kitOne K (.ref bo) (.type "ValueError")=some true)
  (Kg:W.kitOne K (.ref bo) (.ref bo)=some true)
  (Kh:W.kitOne K (.ref bo) (.ref nt)=some false)
  (Ki:W.kitOne K (.ref bo) (.ref nn)=some false)
  (Kj:W.findIn K (.ref nt) "__getattribute__"=some (some (.builtin "BaseException.__getattribute__")))
  (Kk:W.findIn K (.ref nt) "__getattr__"=some none)
  (Kl:W.findIn K (.ref nt) "__class__"=some (some (.builtin "object.__class__")))
  (Km:W.mroIn K nt (.type "BaseException")=some true)
  (Kn:W.mroIn K nt (.type "object")=some true)
  (Ko:W.mroIn K nt (.ref be)=some true)
  (Kq:W.kitOne K (.ref nt) (.type "ValueError")=some true)
  (Kr:W.kitOne K (.ref nt) (.ref bo)=some false)
  (Ks:W.kitOne K (.ref nt) (.ref nt)=some true)
  (Kt:W.kitOne K (.ref nt) (.ref nn)=some false)
  (Ku:W.findIn K (.ref nn) "__getattribute__"=some (some (.builtin "BaseException.__getattribute__")))
  (Kv:W.findIn K (.ref nn) "__getattr__"=some none)
  (Kw:W.findIn K (.ref nn) "__class__"=some (some (.builtin "object.__class__")))
  (Kx:W.mroIn K nn (.type "BaseException")=some true)
  (Ky:W.mroIn K nn (.type "object")=some true)
  (Kz:W.mroIn K nn (.ref be)=some true)
  (KA:W.kitOne K (.ref nn) (.type "ValueError")=some true)
  (KC:W.kitOne K (.ref nn) (.ref bo)=some false)
  (KD:W.kitOne K (.ref nn) (.ref nt)=some false)
  (KG:W.kitOne K (.ref nn) (.ref nn)=some true)
  (KH:W.kitOne K (.type "tuple") (.type "tuple")=some true)
  (KI:W.kitOne K (.type "str") (.type "tuple")=some false)
  (KJ:W.kitOne K (.type "int") (.type "str")=some false)
  (KL:W.kitOne K (.type "str") (.type "str")=some true)
  (KN:W.kitOne K (.type "bool") (.type "bool")=some true)
  (KO:W.kitOne K (.type "int") (.type "bool")=some false)
  (KP:W.kitOne K (.type "int") (.type "tuple")=some false)
  (KQ:W.kitOne K (.type "str") (.type "bool")=some false)
  (KR:W.kitOne K (.type "str") (.type "tuple")=some false)
  (KS:W.kitOne K (.type "NoneType") (.type "bool")=some false)
  (KU:W.kitOne K (.type "NoneType") (.type "tuple")=some false)
  (KW:W.kitOne K (.type "bool") (.type "bool")=some true)
  (KY:W.kitOne K (.type "bool") (.type "tuple")=some false)
  (KZ:W.kitOne K (.type "tuple") (.type "bool")=some false)
  (K2:W.kitOne K (.type "tuple") (.type "tuple")=some true)
  (K4:W.kitOne K (.type "list") (.type "bool")=some false)
  (K5:W.kitOne K (.type "list") (.type "tuple")=some false)
  :∃fd:FuncData,(∀(s:ag) (v:af),BindsTo s fd ⟨[v],[]⟩ [("_law_script",v)])/\∀base:aj,K.In base->base.Ns mainGlobals mg->cJ l.prog w K mg base (cI l.prog w) 9 fa fd ["_law_script"] (AU K):=by
 have e0:=D9.symm.trans (bN X G Jm)
 cases e0
 have T:fP K mg bo nt nn be:=⟨(bN X G FW),(bN X G FX),(bN X G FY),(bN X G FZ),Js,Jt,Ju,Jv⟩
 have O:jJ K mg bW gw:=⟨(bN X G F_),(bN X G Gb),Jq,Jr,⟨tg,(bN X G Jo)⟩,⟨tm,(bN X G Jp)⟩⟩
 have C:bR K mg ⟨jn,nE,jM,dQ⟩:=⟨Jw,Jx,Jy,Jz,(bN X G Gd),(bN X G Ge),(bN X G Gf),(bN X G Gg),JA,JB,JC,JD,JE,JF,JG,JH,JI,JJ,JK,JL,JM,JN,JO,JP,JQ,JR,JS,(jH X G JU),(jH X G JV),(jH X G JW)⟩
 have F:da K mg ⟨CL,CM,CJ,CI,CK,CU,C3,CT,CG,CN,C0,C2,CP,CH,CZ,CS,CO,CQ,CV,C4,CW,CY⟩ ⟨jn,nE,jM,dQ⟩:={vz:=HJ,PZ:=(bN X G Gi),vA:=HK,P0:=(bN X G Gj),vx:=HL,PX:=(bN X G Gk),qp:=HM,DG:=(bN X G Gm),vy:=HN,PY:=(bN X G Gn),i8:=HP,pj:=(bN X G Gp),find:=HQ,ph:=(bN X G Gq),rm:=IS,Su:=Hl,ua:=IT,mkNum:=Hm,admit:=IU,Sg:=Hn,sV:=IV,Ss:=Ho,pN:=IW,Fy:=Hq,uo:=IX,Sl:=Hr,sR:=IY,Sr:=Hs,uf:=IZ,Sj:=Ht,tP:=I0,tW:=Hu,entriesOf:=I_,xb:=Hv,first:=Ja,Ai:=Hw,put:=Jb,Fv:=Hy,takeOut:=Jc,tX:=Hz,ud:=Jd,Fw:=HA,record:=Je,Fx:=HB}
 have D:oY K mg ⟨Dj,Df,De,Dg,Dh,Di⟩:={place:=HR,vS:=(bN X G Gr),may:=HS,P8:=(bN X G Gs),count:=HU,P1:=(bN X G Gu),tY:=HV,P9:=(bN X G Gv),next:=HW,DJ:=(bN X G Gw),DK:=(bN X G Gh),other:=J7}
 have M:qk K mg ⟨FA,Fz⟩:={meet:=HX,vR:=(bN X G Gx),tV:=HY,P7:=(bN X G Gy)}
 have N:jl K mg ⟨jn,nE,jM,dQ⟩ ⟨FG,FH,FI,FE,FF,FD⟩:={entryOf:=Jf,xc:=HC,Ad:=Jg,acG:=HD,last:=Jh,Fu:=HE,cancel:=HZ,vO:=(bN X G Gz),change:=H_,vP:=(bN X G GA),call:=Ia,vL:=(bN X G GB)}
 have U:jK K mg ⟨Me,Mg,Mh,Mc,Mj,Md,Mi,Mf⟩:={tU:=Ib,DI:=(bN X G GC),ur:=Ie,Qc:=(bN X G GD),jY:=Ig,vU:=(bN X G GF),jN:=Ih,vM:=(bN X G GG),ux:=Ii,Qe:=(bN X G GH),tT:=Ij,DH:=(bN X G GI),weigh:=Ik,Qd:=(bN X G GJ),uq:=Il,DM:=(bN X G GK)}
 have Z:jL mg:=⟨(jH X G J3),(jH X G J4),(jH X G J5),(jH X G J6)⟩
 have Lt:nr K mg bo nt nn be ⟨Dt,Dv,Dw,Du,Ds⟩:={cell:=Im,PV:=(bN X G GL),mix:=Io,qz:=(bN X G GN),ar:=Ip,Qa:=(bN X G GO),sU:=Iq,P2:=(bN X G GP),asked:=Ir,PU:=(bN X G GQ),Uo:=⟨J_,Ka,Kb,Kc,Kd⟩,Uq:=⟨Kj,Kk,Kl,Km,Kn⟩,Up:=⟨Ku,Kv,Kw,Kx,Ky⟩,mB:=Ke,mT:=Ko,mN:=Kz,vB:=Kf,vT:=Kq,vN:=KA,Rr:=Kg,Rv:=Kh,Ru:=Ki,RA:=Kr,RC:=Ks,RB:=Kt,Rw:=KC,Rz:=KD,Ry:=KG,tTT:=KH,tST:=KI,tIS:=KJ,tSS:=KL,tBB:=KN,gi:=(jH X G JX),gv:=(jH X G JY),vV:=(jH X G JZ),YM:=(jH X G J0),vW:=(jH X G J1),DP:=(jH X G J2)}
 have Rt:eE K mg ⟨jn,nE,jM,dQ⟩ ⟨Lk,Lb,Lp,Lm,Lo,Lc,Lr,La,Ld,Lj,Ll,K8,K9,Lu,K7,Ls,K6,K_,Le,Ln,Lg,Lh,Li,Lf⟩:={new:=Iu,P_:=(bN X G GR),first:=Iv,P5:=(bN X G GU),side:=Iw,sZ:=(bN X G GV),put:=Iy,zh:=(bN X G GW),uk:=Iz,DL:=(bN X G GX),gone:=IA,vQ:=(bN X G GY),i8:=IB,pj:=(bN X G GZ),find:=IC,ph:=(bN X G G0),good:=ID,P6:=(bN X G G_),meet:=IE,vR:=(bN X G Ha),place:=IF,vS:=(bN X G Hb),cancel:=IG,vO:=(bN X G Hc),change:=IH,vP:=(bN X G Hd),wanted:=II,DN:=(bN X G He),jN:=IJ,vM:=(bN X G Hf),jY:=IK,vU:=(bN X G Hg),call:=IL,vL:=(bN X G Hh),done:=IM,P4:=(bN X G Hi),is:=IP,qy:=(bN X G Hj),same:=IQ,Qb:=(bN X G Hk),left:=Ji,Si:=HF,shown:=Jj,Sk:=HG,uu:=Jk,Sm:=HH,depth:=Jl,Sh:=HI,Qf:=(jH X G JT)}
 have It:vi K:=⟨KO,KP,KQ,KR,KS,KU,KW,KY,KZ,K2,K4,K5⟩
 obtain⟨fd,QB,hbd⟩:=id Jn
 obtain⟨oc,od,kV,doc,pm,an,cF,ct,lH,rfl,lk,ku⟩:=QB.ex
 exact⟨_,λs v=>.of_eq rfl,λbase _ _=>abH T O C F D M N U Z Lt It Rt QB⟩
theorem walk{l:W.OpenLaw}{q:Program}{loose:aa Str}{XP:(Str->ae af)->aj->Prop}{YP:World->aj->Prop}{d:DefRec}{K:Params->W.Frag}(hn:l.most=some 63)(wj:d.params.defaults= [])
  (hY:∀(w:World) (h:aj),YP w h->(K w.params).In h)
  (F:∀(w:World) (mg:Str->ae af) (fa:ah) (h:aj),(K w.params).In h->h.Ns mainGlobals mg->mg d.name=some (.ref fa)->
   ∃fd:FuncData,(∀(s:ag) (u:af),BindsTo s fd ⟨[u],[]⟩ [("_law_script",u)])/\∀base:aj,(K w.params).In base->base.Ns mainGlobals mg->cJ l.prog w (K w.params) mg base (cI l.prog w) 9 fa fd ["_law_script"] (AU (K w.params))):
  W.WalkO q loose XP YP l.row.toRowW d [] (λf vs=>PySem.call f vs):=
 L2.ahl (n:=63) (k:=9) (x:="_law_script") (CX:=λw=>cI l.prog w) (sp:=λw=>AU (K w.params)) hn (by decide) wj ⟨rfl,by decide,by decide⟩ hY F (λ_ _ a ns hl _ hS=>⟨a,ns,rfl,hS,hl,λ_=>rfl⟩) λ_ _ _ _ _ z=>z.elim λ_ z=>by
  obtain⟨_,_,_,_,_,_,_,_,_,_,_,q⟩:=z
  exact q
end Fb
open PySem PySem.W PyProof.Rows
namespace PySem.W.Fast
def tw4033347237568694009:=()
def tw10516362271744475846:=()
def tw2772949875450481729:=()
def tw1242072527904907238:=()
def tw9154580549385458041:=()
def tw10965317771286753803:=()
def tw3854615079965655713:=()
def tw3972309416173252113:=()
def tw10025787884513212434:=()
def tw12252408736253866881:=()
def tw1303816632241380412:=()
def tw12678971781096166376:=()
def tw14295558524166247297:=()
def tw17460930252356948059:=()
def tw847220350074926362:=()
def tw9814766803644007003:=()
def tw11259889267150738012:=()
def tw14307167360018684050:=()
def tw14373769311322612388:=()
def tw12497344741463239623:=()
def tw2035353860879056795:=()
def tw14411060476611326034:=()
def tw7187316648620088052:=()
def tw14216582028343404829:=()
def tw5389678394320040497:=()
def tw12826862702916850875:=()
def tw8494602332570012918:=()
def tw8751083607302826545:=()
def tw3910001142125730866:=()
def tw1680642010798578308:=()
def tw6590111424340093918:=()
def tw3266452631866451676:=()
def tw15247654479550568507:=()
def tw18102651157095837946:=()
def tw10224036079179472108:=()
def tw5901201152157075380:=()
def tw8683944322273474422:=()
def tw4332230426061631959:=()
def tw2871833112397789228:=()
def tw13202584427674474659:=()
def tw3926990529968011107:=()
def tw7968534179114412674:=()
def tw16213707561588586540:=()
def tw1282856850730356969:=()
def tw2667543271281474738:=()
def tw15460933689331141265:=()
def tw4941539600123824260:=()
def tw13093769789527108094:=()
def tw7015769566220345165:=()
def tw8529736488642470351:=()
def tw16360399051228977867:=()
def tw8134243816197030186:=()
def tw18143750498942082743:=()
def tw15932121818088627966:=()
def tw332875843085223051:=()
def tw16624800882252980094:=()
def tw13256134649846193614:=()
def tw12866524104618664519:=()
def tw8551458967127408303:=()
def tw6363831008900728800:=()
def tw15173556448167635308:=()
def tw1976464264921200837:=()
def tw13708234971006826032:=()
def tw15792227470176435167:=()
def tw7671788270710192733:=()
def tw4210198416488000993:=()
def tw14387117851913057802:=()
def tw13475052782165259809:=()
def tw7519384849024549423:=()
def tw733434029737490228:=()
def tw455558012566900487:=()
def tw16248510318016738204:=()
def tw1275546560438619510:=()
def tw15653594619478384831:=()
def tw18197903193318876808:=()
def tw11403923158452999503:=()
def tw1004614295281092415:=()
def tw9857469754677298502:=()
def tw225517823480743734:=()
def tw271083646718693206:=()
def tw2995663821382310246:=()
def tw12635603374194298691:=()
def tw16750107809536053455:=()
def tw3099520987497235672:=()
def tw8084003110557892142:=()
def tw7114829108192660746:=()
def tw934297513232554386:=()
def tw5540334952075450077:=()
def tw3987244554604036603:=()
def tw12943485691882342544:=()
def tw4307536303335511252:=()
def tw8354642076974837822:=()
def tw14493734507599399294:=()
def tw10550359053173319519:=()
def tw14084384525031998850:=()
def tw1943082016435403161:=()
def tw17146571263408573627:=()
def tw7207548849489096624:=()
def tw7881213093615291090:=()
def tw5938953823024738318:=()
def tw5806124544891590436:=()
def tw10304229157584000347:=()
def tw7340370703573762881:=()
def tw15032329132344758387:=()
def tw9311348360112966012:=()
def tw11343190543887785522:=()
def tw13279651461409555534:=()
def tw6587016671731071325:=()
def tw16189213371051415204:=()
def tw4560486623613229901:=()
def tw17364296895212686996:=()
def tw17084505727813720349:=()
def tw1804143022248434233:=()
def tw17464402577877740312:=()
def tw1110848412952937981:=()
def tw14316087990660364961:=()
def tw4852658024270715594:=()
def tw13521780750004334699:=()
def tw11830821652012993696:=()
def tw6050890277034093569:=()
def tw2097030193747589442:=()
def tw4670189894187459910:=()
def tw12848399965011494469:=()
def tw6798223238504839942:=()
def tw69638407034116235:=()
def tw15862519787838685440:=()
def tw8426785318208907780:=()
def tw16336526163892044454:=()
def tw12711884122249986419:=()
def tw12763011626558152902:=()
def tw4235312029313770521:=()
def tw6867081483881299493:=()
def tw17668622370820885563:=()
def tw5028702356595360892:=()
def tw3609973688106158818:=()
def tw485407012151638006:=()
def tw1304565205317108856:=()
def tw13247082752486784777:=()
def tw2964621058727522887:=()
def tw17172175586357772664:=()
def tw6337429257564138116:=()
def tw15533877843184879761:=()
def tw6157720903317021824:=()
def tw14723415701168027553:=()
def tw1928362963845791631:=()
def tw3733517451161727227:=()
def tw13808256071344134768:=()
def tw1481643439335061417:=()
def tw12171584226072357245:=()
def tw643253016484427543:=()
def tw4592748479878530734:=()
def tw16242906224119820476:=()
end PySem.W.Fast
set_option maxRecDepth 100000 in
set_option maxHeartbeats 0 in
theorem PySem.Challenge.cw_fairbook_k10_book_holds : PySem.Challenge.rw_fairbook_k10_book.Holds := by
 w_on; o_law; k_head; (case hw => w_witness2)
 k_fill
 refine Fb.walk (l := PySem.Challenge.rw_fairbook_k10_book) rfl rfl (fun w h Y => PySem.W.kIn_of Y) ?F
 case F =>
  intro w mg fa h KX G wC
  refine' Fb.all_mk KX G wC ?FW ?FX ?FY ?FZ ?F_ ?Gb ?Gd ?Ge ?Gf ?Gg ?Gh ?Gi ?Gj ?Gk ?Gm ?Gn ?Gp ?Gq ?Gr ?Gs ?Gu ?Gv ?Gw ?Gx ?Gy ?Gz ?GA ?GB ?GC ?GD ?GF ?GG ?GH ?GI ?GJ ?GK ?GL ?GN ?GO ?GP ?GQ ?GR ?GU ?GV ?GW ?GX ?GY ?GZ ?G0 ?G_ ?Ha ?Hb ?Hc ?Hd ?He ?Hf ?Hg ?Hh ?Hi ?Hj ?Hk ?Hl ?Hm ?Hn ?Ho ?Hq ?Hr ?Hs ?Ht ?Hu ?Hv ?Hw ?Hy ?Hz ?HA ?HB ?HC ?HD ?HE ?HF ?HG ?HH ?HI ?HJ ?HK ?HL ?HM ?HN ?HP ?HQ ?HR ?HS ?HU ?HV ?HW ?HX ?HY ?HZ ?H_ ?Ia ?Ib ?Ie ?Ig ?Ih ?Ii ?Ij ?Ik ?Il ?Im ?Io ?Ip ?Iq ?Ir ?Iu ?Iv ?Iw ?Iy ?Iz ?IA ?IB ?IC ?ID ?IE ?IF ?IG ?IH ?II ?IJ ?IK ?IL ?IM ?IP ?IQ ?IS ?IT ?IU ?IV ?IW ?IX ?IY ?IZ ?I0 ?I_ ?Ja ?Jb ?Jc ?Jd ?Je ?Jf ?Jg ?Jh ?Ji ?Jj ?Jk ?Jl ?Jm ?Jn ?Jo ?Jp ?Jq ?Jr ?Js ?Jt ?Ju ?Jv ?Jw ?Jx ?Jy ?Jz ?JA ?JB ?JC ?JD ?JE ?JF ?JG ?JH ?JI ?JJ ?JK ?JL ?JM ?JN ?JO ?JP ?JQ ?JR ?JS ?JT ?JU ?JV ?JW ?JX ?JY ?JZ ?J0 ?J1 ?J2 ?J3 ?J4 ?J5 ?J6 ?J7 ?J_ ?Ka ?Kb ?Kc ?Kd ?Ke ?Kf ?Kg ?Kh ?Ki ?Kj ?Kk ?Kl ?Km ?Kn ?Ko ?Kq ?Kr ?Ks ?Kt ?Ku ?Kv ?Kw ?Kx ?Ky ?Kz ?KA ?KC ?KD ?KG ?KH ?KI ?KJ ?KL ?KN ?KO ?KP ?KQ ?KR ?KS ?KU ?KW ?KY ?KZ ?K2 ?K4 ?K5
  (case FW | FX | FY | FZ | F_ | Gb | Gd | Ge | Gf | Gg | Gh | Gi | Gj | Gk | Gm | Gn | Gp | Gq | Gr | Gs | Gu | Gv | Gw | Gx | Gy | Gz | GA | GB | GC | GD | GF | GG | GH | GI | GJ | GK | GL | GN | GO | GP | GQ | GR | GU | GV | GW | GX | GY | GZ | G0 | G_ | Ha | Hb | Hc | Hd | He | Hf | Hg | Hh | Hi | Hj | Hk | Jm | Jo | Jp | JT | JU | JV | JW | JX | JY | JZ | J0 | J1 | J2 | J3 | J4 | J5 | J6 | J_ | Ka | Kb | Kc | Kd | Ke | Kj | Kk | Kl | Km | Kn | Ko | Ku | Kv | Kw | Kx | Ky | Kz => k_is)
  (case Hl | Hm | Ho | Hs => (refine' L2.Mk.mk ?a ?b ?c ?d; (case b | a | c | d => k_is)))
  (case Hn | Hq | Hr | Ht | Hu | Hv | Hw | Hy | Hz | HA | HB | HC | HD | HE | HF | HG | HH | HI => (refine' L2.Meth.mk ?a ?b ?c; (case a | b | c => k_is)))
  (case HJ | HK | HM | Ia | Ig | Ih | Ii | Il | Iv | Iz | IJ | IK | IL | IT | IW | IY | I0 | Jg | Jh | Jk | Jn => (refine' Fb.qr ?l ?c ?k ?b; (case l | c | k => k_is); (case b => exact fun _ _ _ _ _ _ us hl => match us, hl with | [_], _ => rfl)))
  (case HL | HP | HQ | HS | HU | HV | HW | HZ | Ij | Im | Io | Ip | Iq | Ir | Iw | Iy | IA | IC | IG | IM | IP | IQ | IU | IV | IX | IZ | I_ | Ja | Jb | Jc | Jd | Jf | Ji | Jj | Jl => (refine' Fb.qr ?l ?c ?k ?b; (case l | c | k => k_is); (case b => exact fun _ _ _ _ _ _ us hl => match us, hl with | [_, _], _ => rfl)))
  (case HN | HX | HY | H_ | Ib | Ie | IB | IE | IH | II | Je => (refine' Fb.qr ?l ?c ?k ?b; (case l | c | k => k_is); (case b => exact fun _ _ _ _ _ _ us hl => match us, hl with | [_, _, _], _ => rfl)))
  (case HR | IF | IS => (refine' Fb.qr ?l ?c ?k ?b; (case l | c | k => k_is); (case b => exact fun _ _ _ _ _ _ us hl => match us, hl with | [_, _, _, _, _, _, _], _ => rfl)))
  (case Ik => (refine' Fb.qr ?l ?c ?k ?b; (case l | c | k => k_is); (case b => exact fun _ _ _ _ _ _ us hl => match us, hl with | [_, _, _, _], _ => rfl)))
  (case Iu => (refine' Fb.qr ?l ?c ?k ?b; (case l | c | k => k_is); (case b => exact fun _ _ _ _ _ _ us hl => match us, hl with | [], _ => rfl)))
  (case ID => (refine' Fb.qr ?l ?c ?k ?b; (case l | c | k => k_is); (case b => exact fun _ _ _ _ _ _ us hl => match us, hl with | [_, _, _, _, _], _ => rfl)))
  (case Jq => (refine' Fb.TR ?l ?z ?r; (case l => k_is); (case z => exact (by rw [sizeLine_eq]; decide)); (case r => exact .cons ⟨_, rfl⟩ (.cons ⟨_, rfl⟩ .nil))))
  (case Jr => (refine' Fb.TR ?l ?z ?r; (case l => k_is); (case z => exact (by rw [sizeLine_eq]; decide)); (case r => exact .cons ⟨_, rfl⟩ (.cons ⟨_, rfl⟩ (.cons ⟨_, rfl⟩ .nil)))))
  (case Js | Jt | Ju | Jv => (show PySem.W.excIn _ _ _ _ = true; kernel_rfl!))
  (case Jw | Jx | Jy | Jz => (refine' L2.fE.mk ?a ?b ?c ?d; (case a | b | c | d => k_is)))
  (case JA | JB | JC | JD | JE | JF | JG | JH | JI | JJ | JK | JL | JM | JN | JO | JP | JQ | JR | JS => (show PySem.W.findIn _ _ _ = some none; k_is))
  (case J7 | Kf | Kg | Kh | Ki | Kq | Kr | Ks | Kt | KA | KC | KD | KG | KH | KI | KJ | KL | KN | KO | KP | KQ | KR | KS | KU | KW | KY | KZ | K2 | K4 | K5 => kernel_rfl!)
#print axioms PySem.Challenge.cw_fairbook_k10_book_holds
