import PyProof.Rows.All
import Wide.All
import OpenK.AllK
import Wide.FinOn
import Lean
import PyProof.EqAt
import PyProof.EqKinds
import PyProof.TupleCall
import PySem.Challenge.RW_keepyard_k06_whole_by_and_by
import PyProof.InstStoreFacts
import PyProof.ExcArgsOwn
import PyProof.ExcAttrAll.Exception
import PyProof.InstEq
set_option compiler.extract_closed false
set_option Elab.async false
set_option linter.all false
set_option maxRecDepth 100000
set_option maxHeartbeats 4000000
set_option Elab.async false
set_option linter.all false
set_option maxRecDepth 100000
abbrev Ay:=PySem.W.Frag
section
open PySem PySem.Spec PyProof.Rows
def J0:=@if_neg
def J3:=@if_pos
def J9:=@List.length_map
def Ja:=@List.getElem?_eq_getElem
def Jb:=@List.mem_cons_self
def Jc:=@List.length_append
def Jd:=@List.mem_cons_of_mem
def Je:=@decide_eq_true
def Jf:=@wpAny_bind
def Jg:=@List.getElem?_eq_some_iff
def Jh:=@Heap.get?_push_of_some
def Ji:=@of_decide_eq_true
def Jj:=@List.getD_eq_getElem?_getD
def Jk:=@List.size_toArray
def Jl:=@PySem.F.plainAttrs_list
def Jm:=@Nat.le_refl
def Jn:=@Bool.false_ne_true
def Jo:=@List.length_singleton
def Jp:=@Int.toNat_natCast
def Jq:=@PySem.F.slot_list_append
def Jr:=@PySem.F.type_list_append
def Js:=@decide_eq_false
def Jt:=@List.length_set
def Ju:=@Nat.le_trans
def Jv:=@Heap.lt_size
def Jw:=@List.getElem?_map
def Jx:=@decide_eq_true_iff
def Jy:=@List.length_cons
def Jz:=@List.map_append
def Y0:=@wpAny_pure
def Y1:=@List.mem_append
def Y2:=@List.mem_filter
def Y3:=@List.mem_range
def Y4:=@List.length_take
def Y5:=@List.mem_singleton
def Y6:=@List.append_assoc
def Y7:=@Nat.not_lt_zero
def Y8:=@List.take_length
def Y9:=@Nat.le_of_lt
def Yb:=@Bool.and_eq_true
def Yc:=@List.mem_append_right
def Ye:=@List.mem_append_left
def Yf:=@List.getElem_mem
def Yg:=@List.getElem?_append_right
def Yh:=@List.length_range
def Yi:=@Option.getD_some
def Yj:=@List.mem_map
end
namespace L2
open PySem PySem.Spec PyProof.Rows
abbrev Key:=Sum Int Str
def yR:Key→Value→Bool
 | .inl k,v=>Value.isInt k v
 | .inr x,v=>Value.isStrOf x v
def keyH (w:World) : Key→Int
 | .inl k=>hashInt k
 | .inr x=>hashStr w x
theorem bO:∀ {k:Key} {v:Value},yR k v=true→(∃ i t,k=Sum.inl i∧v=Value.int i t)∨(∃ x t,k=Sum.inr x∧v=Value.str x t)
 | .inl i,v,h=>by
  obtain ⟨t,e⟩:=Value.isInt_shape (k:=i) (v:=v) h
  exact .inl ⟨i,t,rfl,e⟩
 | .inr x,v,h=>by
  obtain ⟨t,e⟩:=Value.isStrOf_shape (x:=x) (v:=v) h
  exact .inr ⟨x,t,rfl,e⟩
theorem oN (i:Int) (t:Tok) : yR (.inl i) (.int i t)=true:=by simp [yR,Value.isInt]
theorem oO (x:Str) (t:Tok) : yR (.inr x) (.str x t)=true:=by simp [yR,Value.isStrOf]
theorem vd (a b:Int) : decide ((Sum.inl a:Key)=Sum.inl b)=(a==b):=by
 by_cases e:a=b
 ·subst e;simp
 ·have h:¬ (Sum.inl a:Key)=Sum.inl b:=fun q=>e (Sum.inl.inj q)
  rw [Js h]
  exact (beq_eq_false_iff_ne.mpr e).symm
theorem ve (a b:Str) : decide ((Sum.inr a:Key)=Sum.inr b)=decide (a=b):=by
 by_cases e:a=b
 ·subst e;simp
 ·have h:¬ (Sum.inr a:Key)=Sum.inr b:=fun q=>e (Sum.inr.inj q)
  rw [Js h,Js e]
theorem vf (a:Int) (b:Str) : decide ((Sum.inl a:Key)=Sum.inr b)=false:=Js (fun q=>nomatch q)
theorem vg (a:Str) (b:Int) : decide ((Sum.inr a:Key)=Sum.inl b)=false:=Js (fun q=>nomatch q)
def wM (prog:Program) (w:World) : PySem.KeyKind prog w Key where
 is:=yR
 hash:=keyH w
 inj:=fun v a b ha hb=>by
  rcases bO ha with ⟨i,t,rfl,rfl⟩ | ⟨x,t,rfl,rfl⟩
  ·rcases bO hb with ⟨j,u,rfl,e⟩ | ⟨y,u,rfl,e⟩
   ·injection e with e1 _;rw [e1]
   ·exact nomatch e
  ·rcases bO hb with ⟨j,u,rfl,e⟩ | ⟨y,u,rfl,e⟩
   ·exact nomatch e
   ·injection e with e1 _;rw [e1]
 byValue:=fun k v h=>by
  rcases bO h with ⟨i,t,rfl,rfl⟩ | ⟨x,t,rfl,rfl⟩ <;> rfl
 pyHash:=fun hv h=>by
  rcases bO hv with ⟨i,t,rfl,rfl⟩ | ⟨x,t,rfl,rfl⟩
  ·exact wpAny_pyHash_int h
  ·exact wpAny_pyHash_str h
 eqBool:=fun hu hv h=>by
  rcases bO hu with ⟨i,t,rfl,rfl⟩ | ⟨x,t,rfl,rfl⟩
  ·rcases bO hv with ⟨j,u,rfl,rfl⟩ | ⟨y,u,rfl,rfl⟩
   ·rw [vd] at h;exact wpAny_eqBool_int h
   ·rw [vf] at h;exact SeqAt.EqAt.int_str i t y u _ _ _ _ h
  ·rcases bO hv with ⟨j,u,rfl,rfl⟩ | ⟨y,u,rfl,rfl⟩
   ·rw [vg] at h;exact SeqAt.EqAt.str_int x t j u _ _ _ _ h
   ·rw [ve] at h;exact wpAny_eqBool_str h
 «strs»:=fun k x t v h=>by
  rcases bO h with ⟨i,u,rfl,e⟩ | ⟨y,u,rfl,e⟩
  ·exact nomatch e
  ·injection e with e1 _
   subst e1
   cases v <;> rfl
theorem lW (prog:Program) (w:World) (i:Int) (t:Tok) : (wM prog w).is (.inl i) (.int i t)=true:=oN i t
theorem lX (prog:Program) (w:World) (x:Str) (t:Tok) : (wM prog w).is (.inr x) (.str x t)=true:=oO x t
end L2
namespace L2
open PySem PySem.Spec PyProof.Rows
inductive V where
 | non | bl (b:Bool) | int (i:Int) | str (x:Str) | byt (b:Array UInt8) | flt (b:UInt64) | ref (a:Addr) | ty (n:String)
 deriving DecidableEq
def RelV:V→Value→Prop
 | .non,u=>u=Value.none
 | .bl b,u=>u=Value.bool b
 | .int i,u=>∃ t,u=Value.int i t
 | .str x,u=>∃ t,u=Value.str x t
 | .byt b,u=>∃ t,u=Value.bytes b t
 | .flt b,u=>∃ t,u=Value.float b t
 | .ref a,u=>u=Value.ref a
 | .ty n,u=>u=Value.type n
abbrev Vals:List V→List Value→Prop:=Paired RelV
theorem Vals.length {xs:List V} {us:List Value} (r:Vals xs us) : xs.length=us.length:=Paired.length r
theorem Vals.get:∀ {xs:List V} {us:List Value} {i:Nat} {x:V},Vals xs us→xs[i]? = some x→∃ u,us[i]? = some u∧RelV x u
 | _,_,_,_,.nil,e=>by simp at e
 | _,_,0,_,.cons r _,e=>by simp at e;subst e;exact ⟨_,rfl,r⟩
 | _,_,i+1,x,.cons _ t,e=>by
  obtain ⟨u,h1,h2⟩:=Vals.get (i:=i) (x:=x) t (by simpa using e)
  exact ⟨u,by simpa using h1,h2⟩
theorem Vals.set {x:V} {u:Value} (r:RelV x u) : ∀ {xs:List V} {us:List Value} (i:Nat),Vals xs us→Vals (xs.set i x) (us.set i u)
 | _,_,_,.nil=>.nil
 | _,_,0,.cons _ t=>.cons r t
 | _,_,i+1,.cons q t=>.cons q (Vals.set r i t)
theorem Vals.append:∀ {xs ys:List V} {us ws:List Value},Vals xs us→Vals ys ws→Vals (xs++ys) (us++ws)
 | _,_,_,_,.nil,s=>s
 | _,_,_,_,.cons r t,s=>.cons r (Vals.append t s)
theorem Vals.take:∀ {xs:List V} {us:List Value} (n:Nat),Vals xs us→Vals (xs.take n) (us.take n)
 | _,_,0,_=>.nil
 | _,_,_+1,.nil=>.nil
 | _,_,n+1,.cons r t=>.cons r (Vals.take n t)
theorem Vals.drop:∀ {xs:List V} {us:List Value} (n:Nat),Vals xs us→Vals (xs.drop n) (us.drop n)
 | _,_,0,r=>r
 | _,_,_+1,.nil=>.nil
 | _,_,n+1,.cons _ t=>Vals.drop n t
def xw:Option V→Option Value→Prop
 | some v,some u=>RelV v u
 | none,none=>True
 | _,_=>False
def KV {κ:Type} : List (κ × V)→List (κ × Value)→Prop:=Paired fun (p : κ × V) (q : κ × Value)=>p.1=q.1∧RelV p.2 q.2
def kV:Key→V
 | .inl i=>.int i
 | .inr x=>.str x
inductive HO where
 | lst (xs:List V)
 | tup (xs:List V)
 | dK (kvs:List (Key × V)) | dT (kvs:List (List Key × V))
 | set (S:Int→Bool) (n:Nat)
 | ins (C dx:Addr) (fs:List (Str × V))
 | own (x:Addr)
 | xd (fs:List (Str × V))
 | met (f x:Addr)
 | rng (lo hi:Int)
 | frz (o:Obj) (u:HO)
 | tbl (ps:Array Value)
 | ext (φ:Heap→Prop)
abbrev Hp:=Addr→Option HO
def upd (H:Hp) (a:Addr) (o:HO) : Hp:=fun b=>if b=a then some o else H b
theorem af {H:Hp} {a:Addr} {o:HO} : upd H a o a=some o:=by unfold upd;rw [J3 rfl]
theorem ao {H:Hp} {a b:Addr} {o:HO} (h:b≠a) : upd H a o b=H b:=by unfold upd;rw [J0 h]
theorem cS {H:Hp} {a:Addr} {o u:HO} : upd (upd H a o) a u=upd H a u:=by
 funext b;unfold upd;split <;> rfl
theorem bS {H:Hp} {a b:Addr} {o u:HO} (h:H a=some o) (h':H b=some u) (d:o≠u) : a≠b:=by
 intro e;subst e;rw [h] at h';exact d (Option.some.inj h')
theorem aE {H:Hp} {a b:Addr} {o:HO} (h:H a=some o) (h':H b=none) : a≠b:=by
 intro e;subst e;rw [h] at h';cases h'
section
variable (P:Program) (w:World)
def wD (H:Hp) (h:Heap) (a:Addr) : HO→Prop
 | .lst xs=>xs.length≤sizeLine∧∃ (its:List Value) (n:Nat),Vals xs its∧h.get? a=some { cls:=.type "list",data:=.seq its.toArray n }
 | .tup xs=>xs.length≤sizeLine∧∃ its:List Value,Vals xs its∧IsTup h a its.toArray
 | .dK kvs=>kvs.length≤sizeLine∧(a==sysModules)=false∧∃ vs,KV kvs vs∧h.DictOf (wM P w) a vs
 | .dT kvs=>kvs.length≤sizeLine∧(a==sysModules)=false∧∃ xs:List (List Key × Addr × Value),
   Paired (fun (p:List Key × V) (q:List Key × Addr × Value)=>p.1=q.1∧H q.2.1=some (.tup (p.1.map kV))∧RelV p.2 q.2.2) kvs xs ∧
   ∃ o es ep,h.get? a=some o∧o.ExactDict∧o.data=.dict es ep∧es.toList=xs.map (entryOfKey (tupleKind (wM P w)))∧(xs.map (·.1)).Nodup
 | .set S n=>h.SetOf (intKind P w) a S n
 | .ins C dx fs=>H dx=some (.own a)∧fs.length≤1000∧dx≠a∧h.get? a=some (PySem.W.instObj C dx) ∧
   ∃ mA,h.Ns1 dx mA∧(∀ f,xw (fs.lookup f) (mA f))∧PySem.Within mA (fs.map (·.1))
 | .own _=>∃ o,h.get? a=some o
 | .xd fs=>∃ mA,h.Ns1 a mA∧∀ f,xw (fs.lookup f) (mA f)
 | .rng lo hi=>∃ t u v,h.get? a=some { cls:=.type "range",data:=.fields #[.int lo t,.int hi u,.int 1 v] }
 | .frz o u=>h.get? a=some o∧wD H h a u
 | .tbl ps=>h.get? a=some { cls:=.none,data:=.fields ps }
 | .met f x=>h.get? a=some (PySem.W.methodObj (.ref f) (.ref x))
 | .ext φ=>φ h∧(∃ o,h.get? a=some o)∧∀ h1 h2:Heap,φ h1→(∀ o,h1.get? a=some o→h2.get? a=some o)→φ h2
def HOk (H:Hp) (h:Heap) : Prop:=∀ a o,H a=some o→wD P w H h a o
end
section
variable {P:Program} {w:World} {H H':Hp} {h h':Heap} {a:Addr} {o:HO}
theorem wD.lt (x:wD P w H h a o) : a<h.objs.size:=by
 cases o with
 | lst xs=>obtain ⟨_,_,_,_,e⟩:=x;exact Jv e
 | tup xs=>obtain ⟨_,_,_,p⟩:=x;exact p.lt
 | dK kvs=>obtain ⟨_,_,_,_,o,_,_,e,_⟩:=x;exact Jv e
 | dT kvs=>obtain ⟨_,_,_,_,o,_,_,e,_⟩:=x;exact Jv e
 | set S n=>obtain ⟨o,_,_,_,e,_⟩:=x;exact Jv e
 | ins C dx fs=>obtain ⟨_,_,_,e,_⟩:=x;exact Jv e
 | own y=>obtain ⟨_,e⟩:=x;exact Jv e
 | xd fs=>obtain ⟨_,⟨_,_,_,e,_⟩,_⟩:=x;exact Jv e
 | rng lo hi=>obtain ⟨_,_,_,e⟩:=x;exact Jv e
 | frz ob u=>obtain ⟨e,_⟩:=x;exact Jv e
 | tbl ps=>exact Jv (show h.get? a=some _ from x)
 | met f y=>exact Jv (show h.get? a=some _ from x)
 | ext φ=>obtain ⟨_,⟨_,e⟩,_⟩:=x;exact Jv e
theorem Paired.mapP {α β:Type} {F G : α→β→Prop} : ∀ {l₁:List α} {l₂:List β},Paired F l₁ l₂→(∀ a b,F a b→G a b)→Paired G l₁ l₂
 | _,_,.nil,_=>.nil
 | _,_,.cons r t,f=>.cons (f _ _ r) (Paired.mapP t f)
theorem wD.stay (x:wD P w H h a o) (k:∀ b u,(b=a∨H b=some (.own a))→h.get? b=some u→h'.get? b=some u)
  (ho:∀ b,H b=some (.own a)→H' b=some (.own a)) (ht:∀ b xs,H b=some (.tup xs)→H' b=some (.tup xs)) : wD P w H' h' a o:=by
 induction o with
 | lst xs=>obtain ⟨z,its,n,r,e⟩:=x;exact ⟨z,its,n,r,k _ _ (.inl rfl) e⟩
 | tup xs=>obtain ⟨z,its,r,ob,e,c⟩:=x;exact ⟨z,its,r,ob,k _ _ (.inl rfl) e,c⟩
 | dK kvs=>obtain ⟨z,y,vs,r,ob,es,ep,e,c⟩:=x;exact ⟨z,y,vs,r,ob,es,ep,k _ _ (.inl rfl) e,c⟩
 | dT kvs =>
  obtain ⟨z,y,xs,r,ob,es,ep,e,c⟩:=x
  exact ⟨z,y,xs,Paired.mapP r fun p q z=>⟨z.1,ht _ _ z.2.1,z.2.2⟩,ob,es,ep,k _ _ (.inl rfl) e,c⟩
 | set S n=>obtain ⟨ob,es,ep,t,e,c⟩:=x;exact ⟨ob,es,ep,t,k _ _ (.inl rfl) e,c⟩
 | ins C dx fs =>
  obtain ⟨d,z,ne,e,mA,⟨od,es,ep,e2,c⟩,r⟩:=x
  exact ⟨ho _ d,z,ne,k _ _ (.inl rfl) e,mA,⟨od,es,ep,k _ _ (.inr d) e2,c⟩,r⟩
 | own y=>obtain ⟨ob,e⟩:=x;exact ⟨ob,k _ _ (.inl rfl) e⟩
 | xd fs=>obtain ⟨mA,⟨od,es,ep,e,c⟩,r⟩:=x;exact ⟨mA,⟨od,es,ep,k _ _ (.inl rfl) e,c⟩,r⟩
 | rng lo hi=>obtain ⟨t,u,v,e⟩:=x;exact ⟨t,u,v,k _ _ (.inl rfl) e⟩
 | frz ob u ih=>obtain ⟨e,q⟩:=x;exact ⟨k _ _ (.inl rfl) e,ih q⟩
 | tbl ps =>
  have e:h.get? a=some { cls:=.none,data:=.fields ps }:=x
  show h'.get? a=some { cls:=.none,data:=.fields ps }
  exact k a _ (.inl rfl) e
 | met f y =>
  have e:h.get? a=some (PySem.W.methodObj (.ref f) (.ref y)):=x
  show h'.get? a=some (PySem.W.methodObj (.ref f) (.ref y))
  exact k a _ (.inl rfl) e
 | ext φ=>obtain ⟨p,⟨o,e⟩,st⟩:=x;exact ⟨st _ _ p fun o q=>k _ _ (.inl rfl) q,⟨o,k _ _ (.inl rfl) e⟩,st⟩
theorem HOk.lt (x:HOk P w H h) (e:H a=some o) : a<h.objs.size:=(x a o e).lt
theorem HOk.fresh (x:HOk P w H h) (e:h.objs.size≤a) : H a=none:=by
 cases q:H a with
 | none=>rfl
 | some u=>exact absurd (Nat.lt_of_lt_of_le (x.lt q) e) (Nat.lt_irrefl _)
theorem HOk.kept (x:HOk P w H h) (k:∀ b u,h.get? b=some u→h'.get? b=some u) : HOk P w H h':=fun a o e =>
 (x a o e).stay (fun b u _ q=>k b u q) (fun _ q=>q) fun _ _ q=>q
theorem HOk.laid (x:HOk P w H h) (k:∀ b u,h.get? b=some u→h'.get? b=some u) (hp:h.objs.size≤a) (new:wD P w (upd H a o) h' a o) : HOk P w (upd H a o) h':=fun b u e=>by
 have hn:=x.fresh hp
 by_cases hb:b=a
 ·subst hb;rw [af] at e;cases e;exact new
 ·rw [ao hb] at e
  exact (x b u e).stay (fun c v _ q=>k c v q) (fun c q=>by rw [ao (aE q hn)];exact q) fun c xs q=>by rw [ao (aE q hn)];exact q
end
def Rd (H:Hp) (a:Addr) (u:HO) : Prop:=H a=some u∨∃ o,H a=some (.frz o u)
theorem Rd.of {H:Hp} {a:Addr} {u:HO} (h:H a=some u) : Rd H a u:=.inl h
theorem Rd.ok {P:Program} {w:World} {H:Hp} {h:Heap} {a:Addr} {u:HO} (r:Rd H a u) (x:HOk P w H h) : wD P w H h a u:=by
 rcases r with r | ⟨o,r⟩
 ·exact x a u r
 ·obtain ⟨_,q⟩:=x a _ r
  exact q
def Mut:Option HO→Prop
 | some (.lst _)=>True
 | some (.dK _)=>True
 | some (.dT _)=>True
 | some (.set _ _)=>True
 | some (.ins _ _ _)=>True
 | some (.ext _)=>True
 | _=>False
section
variable {P:Program} {w:World} {H:Hp} {h h':Heap} {x e:Addr} {o':HO}
theorem HOk.write (ok:HOk P w H h) (mu:Mut (H x)) (he:e=x∨H e=some (.own x)) (k:∀ b u,b≠e→h.get? b=some u→h'.get? b=some u) (heo:∃ u,h'.get? e=some u)
  (new:wD P w (upd H x o') h' x o') : HOk P w (upd H x o') h':=fun b u q=>by
 have nown:∀ c y,H c=some (.own y)→c≠x:=fun c y r z=>by subst z;rw [r] at mu;exact mu
 have ntup:∀ c xs,H c=some (.tup xs)→c≠x:=fun c xs r z=>by subst z;rw [r] at mu;exact mu
 by_cases hb:b=x
 ·subst hb;rw [af] at q;cases q;exact new
 ·rw [ao hb] at q
  by_cases hbe:b=e
  ·have q':H b=some (.own x):=by
    rcases he with z | z
    ·exact absurd (hbe.trans z) hb
    ·rw [hbe];exact z
   rw [q] at q';cases q'
   obtain ⟨v,hv⟩:=heo
   exact ⟨v,by rw [hbe];exact hv⟩
  ·refine (ok b u q).stay (fun c v hc r=>k c v ?_ r) (fun c r=>by rw [ao (nown c b r)];exact r) fun c xs r=>by rw [ao (ntup c xs r)];exact r
   rcases hc with rfl | hc
   ·exact hbe
   ·rintro rfl
    rcases he with z | z
    ·exact nown c b hc z
    ·rw [hc] at z;cases z;exact hb rfl
end
structure Un (fs ex:List Addr) (H H':Hp) (h h':Heap) : Prop where
 keep:∀ b o,h.get? b=some o→H b=none→b∉fs→b∉ex→h'.get? b=some o
 slot:∀ b o,h.get? b=some o→H b=none→b∈fs→b∉ex→∃ sl,h'.get? b=some { o with slots:=sl }
 free:∀ b o,h.get? b=some o→H b=none→b∉ex→H' b=none
 there:∀ b o,h.get? b=some o→b∉ex→∃ o',h'.get? b=some o'
 tups:∀ b xs,H b=some (.tup xs)→H' b=some (.tup xs)
 frzs:∀ b o u,H b=some (.frz o u)→H' b=some (.frz o u)
 tbls:∀ b ps,H b=some (.tbl ps)→∃ more,H' b=some (.tbl (ps++more))
section
variable {fs fs' ex ex':List Addr} {H H1 H2:Hp} {h h1 h2 h':Heap} {a x e:Addr} {o:HO}
theorem Un.any (u:Un fs ex H H1 h h1) {b:Addr} {ob:Obj} (q:h.get? b=some ob) (n:H b=none) (hx:b∉ex) : ∃ sl,h1.get? b=some { ob with slots:=sl }:=by
 by_cases hb:b∈fs
 ·exact u.slot b ob q n hb hx
 ·exact ⟨ob.slots,u.keep b ob q n hb hx⟩
theorem Un.trans (a:Un fs ex H H1 h h1) (b:Un fs ex H1 H2 h1 h2) : Un fs ex H H2 h h2 where
 keep:=fun c ob q n hc hx=>b.keep c ob (a.keep c ob q n hc hx) (a.free c ob q n hx) hc hx
 slot:=fun c ob q n hc hx=>by
  obtain ⟨sl,e1⟩:=a.slot c ob q n hc hx
  obtain ⟨sl',e2⟩:=b.slot c _ e1 (a.free c ob q n hx) hc hx
  exact ⟨sl',e2⟩
 free:=fun c ob q n hx=>by
  obtain ⟨o',e1⟩:=a.there c ob q hx
  exact b.free c o' e1 (a.free c ob q n hx) hx
 there:=fun c ob q hx=>by
  obtain ⟨o',e1⟩:=a.there c ob q hx
  exact b.there c o' e1 hx
 tups:=fun c xs q=>b.tups c xs (a.tups c xs q)
 frzs:=fun c ob xs q=>b.frzs c ob xs (a.frzs c ob xs q)
 tbls:=fun c ps q=>by
  obtain ⟨m1,e1⟩:=a.tbls c ps q
  obtain ⟨m2,e2⟩:=b.tbls c _ e1
  exact ⟨m1++m2,by rw [e2,Array.append_assoc]⟩
theorem Un.kept (k:∀ b u,h.get? b=some u→h'.get? b=some u) : Un fs ex H H h h' :=
 ⟨fun b ob q _ _ _=>k b ob q,fun b ob q _ _ _=>⟨ob.slots,k b ob q⟩,fun _ _ _ n _=>n,fun b ob q _=>⟨ob,k b ob q⟩,fun _ _ q=>q,fun _ _ _ q=>q,fun _ ps q=>⟨#[],by rw [q];simp⟩⟩
theorem Un.refl:Un fs ex H H h h:=Un.kept fun _ _ q=>q
theorem Un.laid (k:∀ b u,h.get? b=some u→h'.get? b=some u) (hp:h.objs.size≤a) (hn:H a=none) : Un fs ex H (upd H a o) h h' where
 keep:=fun b u q _ _ _=>k b u q
 slot:=fun b u q _ _ _=>⟨u.slots,k b u q⟩
 free:=fun b u q n _=>by rw [ao (Nat.ne_of_lt (Nat.lt_of_lt_of_le (Jv q) hp))];exact n
 there:=fun b u q _=>⟨u,k b u q⟩
 tups:=fun b xs q=>by rw [ao (aE q hn)];exact q
 frzs:=fun b u xs q=>by rw [ao (aE q hn)];exact q
 tbls:=fun b ps q=>⟨#[],by rw [ao (aE q hn),q];simp⟩
theorem Un.write (mu:Mut (H x)) (he:e=x∨H e=some (.own x)) (k:∀ b u,b≠e→h.get? b=some u→h'.get? b=some u) (heo:∃ u,h'.get? e=some u) : Un fs ex H (upd H x o) h h':=by
 have hx:∀ b,H b=none→b≠x:=fun b n z=>by subst z;rw [n] at mu;exact mu
 have hb:∀ b,H b=none→b≠e:=fun b n z=>by
  subst z
  rcases he with r | r
  ·exact hx b n r
  ·rw [n] at r;cases r
 have hm:∀ b u,H b=some u→¬ Mut (some u)→b≠x:=fun b u q nm z=>by subst z;rw [q] at mu;exact nm mu
 refine ⟨fun b u q n _ _=>k b u (hb b n) q,fun b u q n _ _=>⟨u.slots,k b u (hb b n) q⟩,fun b u q n _=>by rw [ao (hx b n)];exact n,fun b u q _=>?_,
  fun b xs q=>by rw [ao (hm b _ q fun z=>z)];exact q,fun b u xs q=>by rw [ao (hm b _ q fun z=>z)];exact q,fun b ps q=>⟨#[],by rw [ao (hm b _ q fun z=>z),q];simp⟩⟩
 by_cases hbe:b=e
 ·subst hbe;exact heo
 ·exact ⟨u,k b u hbe q⟩
end
def trk (h:Heap) (H:Hp) : List Addr:=(List.range h.objs.size).filter fun a=>(H a).isSome
def yX (h:Heap) (H:Hp) : Heap:=PySem.W.hideAll h (trk h H)
theorem oP (h:Heap) (H:Hp) : (yX h H).objs.size=h.objs.size:=PySem.W.hideAll_size _ _
theorem qu {h:Heap} {H:Hp} {b:Addr} {o:Obj} (e:h.get? b=some o) (n:H b=none) : (yX h H).get? b=some o :=
 PySem.W.hideAll_get _ e fun hm=>by
  have q:(H b).isSome=true:=(Y2.mp hm).2
  rw [n] at q;simp at q
theorem t9 {h:Heap} {H:Hp} {b:Addr} {o:Obj} (e:(yX h H).get? b=some o) : h.get? b=some o∧H b=none:=by
 have e':h.get? b=some o:=PySem.W.of_hideAll (trk h H) e
 refine ⟨e',?_⟩
 cases q:H b with
 | none=>rfl
 | some x =>
  have hm:b∈trk h H:=Y2.mpr ⟨Y3.mpr (Jv e'),by simp [q]⟩
  have z:(yX h H).get? b=none:=PySem.W.hideAll_none (trk h H) hm
  rw [z] at e;cases e
end L2
namespace L2
open PySem PySem.Spec PyProof.Rows
structure Mod (K:Ay) (mg:Str→Option Value) (base:Heap) : Prop where
 kin:K.In base
 glob:base.Ns mainGlobals mg
 blt:∃ mb,base.Ns builtinsNs mb∧∀ x:Str,x ≠ "__name__" → mb x=bootBuiltins x
 nolimit:base.NoLimit
structure Cx where
 prog:Program
 w:World
 K:Ay
 mg:Str→Option Value
 base:Heap
 A:Around
 N:List Str
 s₀:Shared
 H₀:Hp
 env:Env
 outer:List Env
 stack:List Env
 ex:List Addr
 fn:Str→Bool
 calm:Bool
 pn:List (Addr × Obj)
 xe:Value→Shared→Prop
def frs (l:List Env) : List Addr:=l.filterMap (·.frame)
abbrev Cx.fs (X:Cx) : List Addr:=frs X.outer
def Vis (sc:Scope) (x:Str) : Prop:=sc.names.lookup x=some .local∨sc.names.lookup x=some .cell∨sc.names.lookup x=some .free
def Loc (sc:Scope) (x:Str) : Prop:=sc.names.lookup x=some .local∨sc.names.lookup x=some .cell
def Look (env:Env) (h:Heap) (m:Str→Option Value) (x:Str) (u:Value) : Prop :=
 (env.kindOf x=some .local∧m x=some u)∨((env.kindOf x=some .cell∨env.kindOf x=some .free)∧∃ c,env.cells.lookup x=some c∧h.IsCell c (some u))
structure Cx.Ok (X:Cx) : Prop where
 mod:Mod X.K X.mg X.base
 kind:X.env.scope.kind=.function
 glob:X.env.globals=mainGlobals
 blt:X.env.builtins=builtinsNs
 above:X.s₀.heap.objs.size≤X.env.locals
 inj:∀ x y c,X.env.cells.lookup x=some c→X.env.cells.lookup y=some c→x=y
 has:∀ x,(X.env.kindOf x=some .cell∨X.env.kindOf x=some .free)→∃ c,X.env.cells.lookup x=some c
 cab:∀ x c,X.fn x=true→X.env.cells.lookup x=some c→X.s₀.heap.objs.size≤c
 hd:X.calm=true→X.A.handled=none
 frames:X.A.frames=some X.stack
 stk:X.stack=X.outer∨(X.stack=X.env::X.outer∧X.env.frame=some X.env.locals)
 exf:∀ b∈X.ex,b≠X.env.locals∧∀ x c,X.env.cells.lookup x=some c→c≠b
 bs:∀ b o,X.base.get? b=some o→X.s₀.heap.get? b=some o∧X.H₀ b=none
 bsz:X.base.objs.size≤X.s₀.heap.objs.size
 noex:∀ b o,X.base.get? b=some o→b∉X.ex
 exfs:∀ b∈X.ex,b∉X.fs
 funs:X.s₀.heap.FunFrames X.base X.outer
 frf:∀ b∈X.fs,X.H₀ b=none
structure Inv (X:Cx) (pins:List (Addr × Obj)) (σ:List (Option V)) (H:Hp) (s:Shared) : Prop where
 ok:X.Ok
 os:s.os=X.s₀.os
 bare:AllBare s.gens
 base:Un X.fs X.ex X.H₀ H X.s₀.heap s.heap
 loc:∃ m,s.heap.Ns X.env.locals m∧∀ (i:Nat) (x:Str) (v:V),X.N[i]? = some x→σ[i]? = some (some v)→Vis X.env.scope x→∃ u,RelV v u∧Look X.env s.heap m x u
 cell:∀ x c,X.env.cells.lookup x=some c→∃ v,s.heap.IsCell c v
 free:H X.env.locals=none
 freeC:∀ x c,X.env.cells.lookup x=some c→H c=none
 pin:∀ p∈X.pn++pins,s.heap.get? p.1=some p.2∧H p.1=none∧p.1≠X.env.locals∧p.1∉X.fs∧∀ v,p.2.data≠.cell v
 hok:HOk X.prog X.w H s.heap
 len : σ.length=X.N.length
section
variable {X:Cx} {pins:List (Addr × Obj)} {σ:List (Option V)} {H H':Hp} {s:Shared} {h':Heap}
theorem Cx.Ok.nofr (ok:X.Ok) {b:Addr} {o:Obj} (e:X.base.get? b=some o) : b∉X.fs:=fun hb=>by
 have:=(ok.funs.mem hb).1
 rw [e] at this;cases this
theorem Inv.bs (I:Inv X pins σ H s) : ∀ b o,X.base.get? b=some o→s.heap.get? b=some o∧H b=none:=fun b o e =>
 ⟨I.base.keep b o (I.ok.bs b o e).1 (I.ok.bs b o e).2 (I.ok.nofr e) (I.ok.noex b o e),I.base.free b o (I.ok.bs b o e).1 (I.ok.bs b o e).2 (I.ok.noex b o e)⟩
theorem Inv.bk (I:Inv X pins σ H s) : ∀ b o,X.base.get? b=some o→s.heap.get? b=some o:=fun b o e=>(I.bs b o e).1
theorem Inv.mod (I:Inv X pins σ H s) : Mod X.K X.mg X.base:=I.ok.mod
theorem Inv.kIn (I:Inv X pins σ H s) : X.K.In s.heap:=I.ok.mod.kin.keeps I.bk
theorem Inv.lt (I:Inv X pins σ H s) : X.env.locals<s.heap.objs.size:=let ⟨_,hn,_⟩:=I.loc;hn.lt
theorem Inv.sz (I:Inv X pins σ H s) : X.s₀.heap.objs.size≤s.heap.objs.size:=Ju I.ok.above (Y9 I.lt)
theorem Inv.nofs (I:Inv X pins σ H s) {a:Addr} (h:s.heap.objs.size≤a) : a∉X.fs:=fun hb=>by
 obtain ⟨_,o,ho,_⟩:=I.ok.funs.mem hb
 exact absurd (Nat.lt_of_lt_of_le (Jv ho) (Ju I.sz h)) (Nat.lt_irrefl _)
theorem Inv.cne (I:Inv X pins σ H s) : ∀ x c,X.env.cells.lookup x=some c→c≠X.env.locals:=fun x c e z=>by
 obtain ⟨v,o,ho,hd⟩:=I.cell x c e
 obtain ⟨m,⟨o',es,ep,ho',hd',_⟩,_⟩:=I.loc
 rw [z,ho'] at ho;cases ho;rw [hd'] at hd;cases hd
theorem Inv.funs (I:Inv X pins σ H s) : s.heap.FunFrames X.base X.outer:=by
 have all:∀ (l:List Env),(∀ b∈frs l,b∈X.fs)→X.s₀.heap.FunFrames X.base l→s.heap.FunFrames X.base l:=by
  intro l
  induction l with
  | nil=>intro _ _;trivial
  | cons env r ih =>
   intro hs hl
   obtain ⟨hk,⟨L,o,hf,hn,ho,hd⟩,hr⟩:=hl
   have hL:L∈X.fs:=hs L (by unfold frs;rw [List.filterMap_cons,hf];exact Jb)
   obtain ⟨sl,e⟩:=I.base.slot L o ho (I.ok.frf L hL) hL fun z=>I.ok.exfs L z hL
   exact ⟨hk,⟨L,_,hf,hn,e,hd⟩,ih (fun b hb=>hs b (by unfold frs;rw [List.filterMap_cons,hf];exact Jd _ hb)) hr⟩
 exact all X.outer (fun _ hb=>hb) I.ok.funs
theorem Inv.stack (I:Inv X pins σ H s) : s.heap.FunFrames X.base X.stack:=by
 rcases I.ok.stk with e | ⟨e,hf⟩
 ·rw [e];exact I.funs
 ·rw [e]
  obtain ⟨m,hn,_⟩:=I.loc
  refine .cons (by rw [I.ok.kind];decide) hf hn ?_ I.funs
  exact Heap.get?_none_of_le (Ju I.ok.bsz I.ok.above)
theorem Inv.zL (I:Inv X pins σ H s) : ∀ b∈frs X.stack,b∈X.env.locals::X.fs:=fun b hb=>by
 rcases I.ok.stk with e | ⟨e,hf⟩
 ·rw [e] at hb;exact Jd _ hb
 ·rw [e] at hb
  unfold frs at hb
  rw [List.filterMap_cons,hf] at hb
  exact hb
theorem Inv.yr (I:Inv X pins σ H s) : ∀ b∈frs X.stack,H b=none:=fun b hb=>by
 rcases List.mem_cons.mp (I.zL b hb) with e | hb
 ·rw [e];exact I.free
 ·obtain ⟨_,o,ho,_⟩:=I.ok.funs.mem hb
  exact I.base.free b o ho (I.ok.frf b hb) fun z=>I.ok.exfs b z hb
theorem Inv.step {g':Array GenState} {t':Nat} {d':Drawn} {ch:List Addr} (I:Inv X pins σ H s)
  (hch:∀ b∈ch,(b∈X.ex∨X.s₀.heap.objs.size≤b)∧b≠X.env.locals∧(∀ x c,X.env.cells.lookup x=some c→c≠b)∧∀ p∈X.pn++pins,p.1≠b)
  (keep:∀ b o,b≠X.env.locals→b∉X.fs→b∉ch→s.heap.get? b=some o→H b=none→h'.get? b=some o)
  (slot:∀ b o,b≠X.env.locals→b∈X.fs→b∉ch→s.heap.get? b=some o→H b=none→∃ sl,h'.get? b=some { o with slots:=sl }) (free:∀ b o,b∉ch→s.heap.get? b=some o→H b=none→H' b=none)
  (there:∀ b o,b∉ch→s.heap.get? b=some o→∃ o',h'.get? b=some o')
  (tups:∀ b xs,H b=some (.tup xs)→H' b=some (.tup xs)) (frzs:∀ b o u,H b=some (.frz o u)→H' b=some (.frz o u)) (tbls:∀ b ps,H b=some (.tbl ps)→∃ more,H' b=some (.tbl (ps++more)))
  (ns:∀ m,s.heap.Ns X.env.locals m→h'.Ns X.env.locals m) (hok:HOk X.prog X.w H' h') (hg:AllBare g') :
  Inv X pins σ H' { s with heap:=h',gens:=g',drawn:=d',toks:=t' }:=by
 have neL:∀ b o,X.s₀.heap.get? b=some o→b≠X.env.locals:=fun b o e=>Nat.ne_of_lt (Nat.lt_of_lt_of_le (Jv e) I.ok.above)
 have neC:∀ b o,X.s₀.heap.get? b=some o→b∉X.ex→b∉ch:=fun b o e hx hb=>by
  rcases (hch b hb).1 with z | z
  ·exact hx z
  ·exact absurd (Nat.lt_of_lt_of_le (Jv e) z) (Nat.lt_irrefl _)
 have cellK:∀ x c,X.env.cells.lookup x=some c→∀ v,s.heap.IsCell c v→h'.IsCell c v:=fun x c e v ⟨o,ho,hd⟩=>by
  have nch:c∉ch:=fun z=>(hch c z).2.2.1 x c e rfl
  by_cases hc:c∈X.fs
  ·obtain ⟨sl,q⟩:=slot c o (I.cne x c e) hc nch ho (I.freeC x c e)
   exact ⟨_,q,hd⟩
  ·exact ⟨o,keep c o (I.cne x c e) hc nch ho (I.freeC x c e),hd⟩
 refine ⟨I.ok,I.os,hg,⟨fun b o e n hb hx=>?_,fun b o e n hb hx=>?_,fun b o e n hx=>?_,fun b o e hx=>?_,fun b xs e=>tups b xs (I.base.tups b xs e),fun b o xs e=>frzs b o xs (I.base.frzs b o xs e),fun b ps e=>?_⟩,?_,fun x c e=>?_,?_,fun x c e=>?_,fun p hp=>?_,hok,I.len⟩
 ·exact keep b o (neL b o e) hb (neC b o e hx) (I.base.keep b o e n hb hx) (I.base.free b o e n hx)
 ·obtain ⟨sl,e1⟩:=I.base.slot b o e n hb hx
  obtain ⟨sl',e2⟩:=slot b _ (neL b o e) hb (neC b o e hx) e1 (I.base.free b o e n hx)
  exact ⟨sl',e2⟩
 ·obtain ⟨o',e1⟩:=I.base.there b o e hx
  exact free b o' (neC b o e hx) e1 (I.base.free b o e n hx)
 ·obtain ⟨o',e1⟩:=I.base.there b o e hx
  exact there b o' (neC b o e hx) e1
 ·obtain ⟨m1,e1⟩:=I.base.tbls b ps e
  obtain ⟨m2,e2⟩:=tbls b _ e1
  exact ⟨m1++m2,by rw [e2,Array.append_assoc]⟩
 ·obtain ⟨m,hn,hl⟩:=I.loc
  refine ⟨m,ns m hn,fun i x v e1 e2 e3=>?_⟩
  obtain ⟨u,r,l⟩:=hl i x v e1 e2 e3
  refine ⟨u,r,?_⟩
  rcases l with l | ⟨k,c,e,z⟩
  ·exact .inl l
  ·exact .inr ⟨k,c,e,cellK x c e _ z⟩
 ·obtain ⟨v,z⟩:=I.cell x c e
  exact ⟨v,cellK x c e v z⟩
 ·obtain ⟨m,⟨o,_,_,ho,_⟩,_⟩:=I.loc
  exact free _ o (fun z=>(hch _ z).2.1 rfl) ho I.free
 ·obtain ⟨v,o,ho,hd⟩:=I.cell x c e
  exact free c o (fun z=>(hch c z).2.2.1 x c e rfl) ho (I.freeC x c e)
 ·obtain ⟨e,n,ne,nf,d⟩:=I.pin p hp
  have nch:p.1∉ch:=fun z=>(hch p.1 z).2.2.2 p hp rfl
  exact ⟨keep p.1 p.2 ne nf nch e n,free p.1 p.2 nch e n,ne,nf,d⟩
theorem Inv.un {t':Nat} (I:Inv X pins σ H s) (u:Un X.fs [] H H' s.heap h') (hok:HOk X.prog X.w H' h') : Inv X pins σ H' { s with heap:=h',toks:=t' }:=by
 obtain ⟨m,⟨o,es,ep,ho,r⟩,_⟩:=id I.loc
 obtain ⟨sl,hL⟩:=u.any ho I.free (by simp)
 exact I.step (g':=s.gens) (d':=s.drawn) (ch:=[]) (fun _ z=>nomatch z) (fun b o _ hb _ e n=>u.keep b o e n hb (by simp)) (fun b o _ hb _ e n=>u.slot b o e n hb (by simp)) (fun b o _ e n=>u.free b o e n (by simp)) (fun b o _ e=>u.there b o e (by simp)) u.tups u.frzs u.tbls (fun m' hm=>by
  obtain ⟨o',es',ep',ho',r'⟩:=hm
  rw [ho] at ho';cases ho'
  exact ⟨_,es',ep',hL,r'⟩) hok I.bare
theorem Inv.call {g':Array GenState} {t':Nat} {d':Drawn} {ch:List Addr} (I:Inv X pins σ H s) (u:Un (frs X.stack) ch H H' s.heap h') (hok:HOk X.prog X.w H' h') (hg:AllBare g')
  (hch:∀ b∈ch,(b∈X.ex∨X.s₀.heap.objs.size≤b)∧b≠X.env.locals∧(∀ x c,X.env.cells.lookup x=some c→c≠b)∧∀ p∈X.pn++pins,p.1≠b) :
  Inv X pins σ H' { s with heap:=h',gens:=g',drawn:=d',toks:=t' }:=by
 obtain ⟨m,⟨o,es,ep,ho,r⟩,_⟩:=id I.loc
 obtain ⟨sl,hL⟩:=u.any ho I.free fun z=>(hch _ z).2.1 rfl
 exact I.step (ch:=ch) hch (fun b o hL hb hc e n=>u.keep b o e n (fun z=>(List.mem_cons.mp (I.zL b z)).elim hL hb) hc) (fun b o _ _ hc e n=>u.any e n hc) (fun b o hc e n=>u.free b o e n hc) (fun b o hc e=>u.there b o e hc) u.tups u.frzs u.tbls (fun m' hm=>by
  obtain ⟨o',es',ep',ho',r'⟩:=hm
  rw [ho] at ho';cases ho'
  exact ⟨_,es',ep',hL,r'⟩) hok hg
theorem Inv.turned {t':Nat} {it:Addr} (I:Inv X pins σ H s) (k:∀ b o,b≠it→s.heap.get? b=some o→h'.get? b=some o) (hn:H it=none) (hL:it≠X.env.locals)
  (h1:it∈X.ex∨X.s₀.heap.objs.size≤it) (h2:∀ x c,X.env.cells.lookup x=some c→c≠it) (h3:∀ p∈X.pn++pins,p.1≠it) : Inv X pins σ H { s with heap:=h',toks:=t' }:=by
 have nit:∀ b u,H b=some u→b≠it:=fun b u e z=>by rw [z,hn] at e;cases e
 refine I.step (g':=s.gens) (d':=s.drawn) (ch:=[it]) (fun b hb=>?_) (fun b o _ _ hc e _=>k b o (fun z=>hc (by simp [z])) e) (fun b o _ _ hc e _=>⟨o.slots,k b o (fun z=>hc (by simp [z])) e⟩) (fun _ _ _ _ n=>n)
  (fun b o hc e=>⟨o,k b o (fun z=>hc (by simp [z])) e⟩) (fun _ _ e=>e) (fun _ _ _ e=>e) (fun b ps e=>⟨#[],by rw [e];simp⟩) (fun m hm=>?_) (fun b u e=>?_) I.bare
 ·have e:b=it:=by simpa using hb
  subst e
  exact ⟨h1,hL,h2,h3⟩
 ·obtain ⟨o,es,ep,ho,r⟩:=hm
  exact ⟨o,es,ep,k _ o (Ne.symm hL) ho,r⟩
 ·refine (I.hok b u e).stay (fun c v hc q=>k c v ?_ q) (fun _ q=>q) fun _ _ q=>q
  rcases hc with z | z
  ·rw [z];exact nit b u e
  ·exact nit c _ z
theorem Inv.tok (I:Inv X pins σ H s) (t:Nat) : Inv X pins σ H { s with toks:=t }:=I.un (h':=s.heap) (t':=t) Un.refl I.hok
theorem Inv.kept {t':Nat} (I:Inv X pins σ H s) (k:∀ b u,s.heap.get? b=some u→h'.get? b=some u) : Inv X pins σ H { s with heap:=h',toks:=t' }:=I.un (Un.kept k) (I.hok.kept k)
theorem Inv.laid {a:Addr} {o:HO} {t':Nat} (I:Inv X pins σ H s) (k:∀ b u,s.heap.get? b=some u→h'.get? b=some u) (hp:s.heap.objs.size≤a) (new:wD X.prog X.w (upd H a o) h' a o) :
  Inv X pins σ (upd H a o) { s with heap:=h',toks:=t' }:=I.un (Un.laid k hp (I.hok.fresh hp)) (I.hok.laid k hp new)
theorem Inv.write {x e:Addr} {o:HO} {t':Nat} (I:Inv X pins σ H s) (mu:Mut (H x)) (he:e=x∨H e=some (.own x)) (k:∀ b u,b≠e→s.heap.get? b=some u→h'.get? b=some u) (heo:∃ u,h'.get? e=some u)
  (new:wD X.prog X.w (upd H x o) h' x o) : Inv X pins σ (upd H x o) { s with heap:=h',toks:=t' }:=I.un (Un.write mu he k heo) (I.hok.write mu he k heo new)
theorem Inv.kM {pins':List (Addr × Obj)} (I:Inv X pins σ H s) (h:∀ p∈pins',s.heap.get? p.1=some p.2∧H p.1=none∧p.1≠X.env.locals∧p.1∉X.fs∧∀ v,p.2.data≠.cell v) : Inv X pins' σ H s :=
 ⟨I.ok,I.os,I.bare,I.base,I.loc,I.cell,I.free,I.freeC,fun p hp=>(Y1.mp hp).elim (fun z=>I.pin p (Ye _ z)) (h p),I.hok,I.len⟩
theorem lY {N:List Str} (hN:N.Nodup) {i j:Nat} {x:Str} (a:N[i]? = some x) (b:N[j]? = some x) : i=j:=by
 obtain ⟨h1,e1⟩:=Jg.mp a
 obtain ⟨h2,e2⟩:=Jg.mp b
 exact (List.getElem_inj hN).mp (e1.trans e2.symm)
theorem oQ {M:Model} {A:Around} {E:Value→Shared→Prop} {i:Nat} {x:Str} {v:V} {u:Value} {Q:Unit→Shared→Prop} (I:Inv X pins σ H s) (hN:X.N.Nodup) (hi:X.N[i]? = some x) (hx:Loc X.env.scope x) (r:RelV v u)
  (h:∀ s',Inv X pins (σ.set i (some v)) H s'→(∃ a,Heap.SameBut a s.heap s'.heap∧(a=X.env.locals∨X.env.cells.lookup x=some a))→Q () s') (hf:X.fn x=true∨X.env.scope.names.lookup x=some .local:=by first | exact .inl rfl | exact .inr rfl | assumption) : wpAny M A (storeName X.env x u) Q E s:=by
 obtain ⟨m,hn,hl⟩:=id I.loc
 have hcls:(X.env.scope.kind==.class || (X.env.scope.kind==.module && X.env.locals != X.env.globals))=false:=by rw [I.ok.kind];rfl
 have hiσ:i<σ.length:=by rw [I.len];exact (Jg.mp hi).1
 have cne:=I.cne
 have tracked:∀ {a:Addr} {h':Heap},(∃ o,s.heap.get? a=some o∧H a=none)→Heap.SameBut a s.heap h'→HOk X.prog X.w H h':=fun {a h'} ha hs b ob e=>by
  obtain ⟨_,_,hfree⟩:=ha
  refine (I.hok b ob e).stay (fun c w' hc q=>(hs.2 c ?_).trans q) (fun _ q=>q) fun _ _ q=>q
  rintro rfl
  rcases hc with rfl | hc
  ·rw [hfree] at e;cases e
  ·rw [hfree] at hc;cases hc
 rcases hx with hk | hk
 ·refine wpAny_storeName_local hk hn (fun h' hn' hs=>?_) hcls
  obtain ⟨oL,_,_,hoL,_⟩:=id hn
  refine h _ ⟨I.ok,I.os,I.bare,⟨fun b o e n hb hx=>?_,fun b o e n hb hx=>?_,I.base.free,fun b o e hx=>?_,I.base.tups,I.base.frzs,I.base.tbls⟩,⟨_,hn',fun j y v' e1 e2 e3=>?_⟩,fun y c e=>?_,I.free,I.freeC,fun p hp=>?_,tracked ⟨oL,hoL,I.free⟩ hs,by simpa using I.len⟩ ⟨_,hs,.inl rfl⟩
  ·exact (hs.2 b (Nat.ne_of_lt (Nat.lt_of_lt_of_le (Jv e) I.ok.above))).trans (I.base.keep b o e n hb hx)
  ·obtain ⟨sl,e1⟩:=I.base.slot b o e n hb hx
   exact ⟨sl,(hs.2 b (Nat.ne_of_lt (Nat.lt_of_lt_of_le (Jv e) I.ok.above))).trans e1⟩
  ·obtain ⟨o',e1⟩:=I.base.there b o e hx
   exact ⟨o',(hs.2 b (Nat.ne_of_lt (Nat.lt_of_lt_of_le (Jv e) I.ok.above))).trans e1⟩
  ·by_cases hj:j=i
   ·subst hj
    rw [hi] at e1;cases e1
    rw [List.getElem?_set_self hiσ] at e2
    cases e2
    exact ⟨u,r,.inl ⟨hk,by simp⟩⟩
   ·rw [List.getElem?_set_ne (Ne.symm hj)] at e2
    obtain ⟨u',r',q⟩:=hl j y v' e1 e2 e3
    refine ⟨u',r',?_⟩
    rcases q with ⟨k,e⟩ | ⟨k,c,e,z⟩
    ·refine .inl ⟨k,?_⟩
     have:y≠x:=fun e=>hj (lY hN e1 (e ▸ hi))
     simp [this,e]
    ·exact .inr ⟨k,c,e,z.sameBut hs (cne y c e)⟩
  ·obtain ⟨w',z⟩:=I.cell y c e
   exact ⟨w',z.sameBut hs (cne y c e)⟩
  ·obtain ⟨e,n,ne,nf,d⟩:=I.pin p hp
   exact ⟨(hs.2 p.1 ne).trans e,n,ne,nf,d⟩
 ·have hfn:X.fn x=true:=by
   rcases hf with z | z
   ·exact z
   ·rw [z] at hk;cases hk
  obtain ⟨c,hc⟩:=I.ok.has x (.inl hk)
  obtain ⟨w',z⟩:=I.cell x c hc
  refine wpAny_storeName_cell I.ok.kind hk hc z (fun h' hc' hs=>?_)
  obtain ⟨oc,hoc,hocd⟩:=id z
  refine h { s with heap:=h' } ⟨I.ok,I.os,I.bare,⟨fun b o e n hb hx=>?_,fun b o e n hb hx=>?_,I.base.free,fun b o e hx=>?_,I.base.tups,I.base.frzs,I.base.tbls⟩,⟨m,hn.sameBut hs (Ne.symm (cne x c hc)),fun j y v' e1 e2 e3=>?_⟩,fun y c' e=>?_,I.free,I.freeC,fun p hp=>?_,tracked ⟨oc,hoc,I.freeC x c hc⟩ hs,by simpa using I.len⟩ ⟨c,hs,.inr hc⟩
  ·exact (hs.2 b (Nat.ne_of_lt (Nat.lt_of_lt_of_le (Jv e) (I.ok.cab x c hfn hc)))).trans (I.base.keep b o e n hb hx)
  ·obtain ⟨sl,e1⟩:=I.base.slot b o e n hb hx
   exact ⟨sl,(hs.2 b (Nat.ne_of_lt (Nat.lt_of_lt_of_le (Jv e) (I.ok.cab x c hfn hc)))).trans e1⟩
  ·obtain ⟨o',e1⟩:=I.base.there b o e hx
   exact ⟨o',(hs.2 b (Nat.ne_of_lt (Nat.lt_of_lt_of_le (Jv e) (I.ok.cab x c hfn hc)))).trans e1⟩
  ·by_cases hj:j=i
   ·subst hj
    rw [hi] at e1;cases e1
    rw [List.getElem?_set_self hiσ] at e2
    cases e2
    exact ⟨u,r,.inr ⟨.inl hk,c,hc,hc'⟩⟩
   ·rw [List.getElem?_set_ne (Ne.symm hj)] at e2
    obtain ⟨u',r',q⟩:=hl j y v' e1 e2 e3
    refine ⟨u',r',?_⟩
    rcases q with q | ⟨k,c',e,z'⟩
    ·exact .inl q
    ·refine .inr ⟨k,c',e,z'.sameBut hs ?_⟩
     rintro rfl
     exact hj (lY hN e1 (I.ok.inj _ _ _ e hc ▸ hi))
  ·by_cases hcc:c'=c
   ·subst hcc;exact ⟨_,hc'⟩
   ·obtain ⟨w2,z2⟩:=I.cell y c' e
    exact ⟨w2,z2.sameBut hs hcc⟩
  ·obtain ⟨e,n,ne,nf,d⟩:=I.pin p hp
   refine ⟨(hs.2 p.1 ?_).trans e,n,ne,nf,d⟩
   intro q
   rw [q,hoc] at e
   have q':oc=p.2:=Option.some.inj e
   exact d w' (by rw [← q'];exact hocd)
theorem jf {M:Model} {A:Around} {E:Value→Shared→Prop} {i:Nat} {x:Str} {v:V} {u:Value} {Q:Unit→Shared→Prop} (I:Inv X pins σ H s) (hN:X.N.Nodup) (hi:X.N[i]? = some x) (hx:Loc X.env.scope x) (r:RelV v u)
  (h:∀ s',Inv X pins (σ.set i (some v)) H s'→Q () s') (hf:X.fn x=true∨X.env.scope.names.lookup x=some .local:=by first | exact .inl rfl | exact .inr rfl | assumption) : wpAny M A (storeName X.env x u) Q E s :=
 oQ I hN hi hx r (fun s' I' _=>h s' I') hf
theorem Inv.call' {s':Shared} {ch:List Addr} (I:Inv X pins σ H s) (ho:s'.os=s.os) (u:Un (frs X.stack) ch H H' s.heap s'.heap) (hok:HOk X.prog X.w H' s'.heap) (hg:AllBare s'.gens)
  (hch:∀ b∈ch,(b∈X.ex∨X.s₀.heap.objs.size≤b)∧b≠X.env.locals∧(∀ x c,X.env.cells.lookup x=some c→c≠b)∧∀ p∈X.pn++pins,p.1≠b) : Inv X pins σ H' s':=by
 obtain ⟨h',g',d',t',o'⟩:=s'
 have e:o'=s.os:=ho
 subst e
 exact I.call (g':=g') (t':=t') (d':=d') u hok hg hch
end
abbrev XK:=Value→Option Addr→Hp→Prop
abbrev St:=List (Option V)
abbrev VK:=V→Hp→Prop
abbrev TE:=St→Hp→VK→Prop
abbrev TT:=St→Hp→(Bool→Hp→Prop)→Prop
abbrev TA:=St→Hp→(List V→Hp→Prop)→Prop
structure Ends where
 nx:St→Hp→Prop
 rt:VK
 bk:St→Hp→Prop:=fun _ _=>False
 ct:St→Hp→Prop:=fun _ _=>False
abbrev TS:=Ends→St→Hp→Prop
def EP (X:Cx) (pins:List (Addr × Obj)) (σ:St) (Q:VK) (u:Value) (s':Shared) : Prop:=∃ v H',Inv X pins σ H' s'∧RelV v u∧Q v H'
def TP (X:Cx) (pins:List (Addr × Obj)) (σ:St) (Q:Bool→Hp→Prop) (b:Bool) (s':Shared) : Prop:=∃ H',Inv X pins σ H' s'∧Q b H'
def AP (X:Cx) (pins:List (Addr × Obj)) (σ:St) (Q:List V→Hp→Prop) (us:List Value) (s':Shared) : Prop:=∃ vs H',Inv X pins σ H' s'∧Vals vs us∧Q vs H'
def SP (X:Cx) (pins:List (Addr × Obj)) (D:Ends) (f:Flow) (s':Shared) : Prop :=
 match f with
 | .next=>∃ σ' H',Inv X pins σ' H' s'∧D.nx σ' H'
 | .brk=>∃ σ' H',Inv X pins σ' H' s'∧D.bk σ' H'
 | .cont=>∃ σ' H',Inv X pins σ' H' s'∧D.ct σ' H'
 | .ret u=>∃ v σ' H',Inv X pins σ' H' s'∧RelV v u∧D.rt v H'
def PE (X:Cx) (e:Expr) (t:TE) : Prop :=
 ∀ (pins:List (Addr × Obj)) (s:Shared) (σ:St) (H:Hp) (Q:VK),Inv X pins σ H s→t σ H Q→wpAny (model X.prog X.w) X.A (eval e X.env) (EP X pins σ Q) X.xe s
def PT (X:Cx) (e:Expr) (t:TT) : Prop :=
 ∀ (pins:List (Addr × Obj)) (s:Shared) (σ:St) (H:Hp) (Q:Bool→Hp→Prop),Inv X pins σ H s→t σ H Q→wpAny (model X.prog X.w) X.A (isTrue e X.env (eval e X.env)) (TP X pins σ Q) X.xe s
def PW (X:Cx) (e:Expr) (t:TT) : Prop :=
 ∀ (whole:Sem Value) (pins:List (Addr × Obj)) (s:Shared) (σ:St) (H:Hp) (Q:Bool→Hp→Prop),Inv X pins σ H s→t σ H Q→wpAny (model X.prog X.w) X.A (isTrue e X.env whole) (TP X pins σ Q) X.xe s
theorem PW.pt {X:Cx} {e:Expr} {t:TT} (h:PW X e t) : PT X e t:=h _
def PA (X:Cx) (es:List Expr) (t:TA) : Prop :=
 ∀ (pos:Pos) (pins:List (Addr × Obj)) (s:Shared) (σ:St) (H:Hp) (Q:List V→Hp→Prop),Inv X pins σ H s→t σ H Q→wpAny (model X.prog X.w) X.A (spliced (backTo pos (starEach es X.env))) (AP X pins σ Q) X.xe s
def PS (X:Cx) (st:Stmt) (t:TS) : Prop :=
 ∀ (pins:List (Addr × Obj)) (s:Shared) (σ:St) (H:Hp) (D:Ends),Inv X pins σ H s→t D σ H→wpAny (model X.prog X.w) X.A (exec st X.env) (SP X pins D) X.xe s
def PSs (X:Cx) (st:List Stmt) (t:TS) : Prop :=
 ∀ (pins:List (Addr × Obj)) (s:Shared) (σ:St) (H:Hp) (D:Ends),Inv X pins σ H s→t D σ H→wpAny (model X.prog X.w) X.A (execs st X.env) (SP X pins D) X.xe s
theorem thn {α:Type} {t:Sem α} {Q Q' : α→Shared→Prop} {M:Model} {A:Around} {E:Value→Shared→Prop} {s:Shared} (h:wpAny M A t Q E s) (hQ:∀ a s,Q a s→Q' a s) : wpAny M A t Q' E s:=wpAny_mono h hQ fun _ _ x=>x
end L2
namespace L2
open PySem PySem.Spec PyProof.Rows
section
variable {X:Cx}
theorem bin {a b:Expr} {ta tb:TE} (ha:PE X a ta) (hb:PE X b tb) {pins:List (Addr × Obj)} {s:Shared} {σ:St} {H:Hp} {R:V→V→Hp→Prop} (I:Inv X pins σ H s) (h:ta σ H fun x H1=>tb σ H1 fun y H2=>R x y H2)
  {α:Type} {Q : α→Shared→Prop} {f:Value→Value→Sem α}
  (hf:∀ v u s2 x y H2,Inv X pins σ H2 s2→RelV x v→RelV y u→R x y H2→wpAny (model X.prog X.w) X.A (f v u) Q X.xe s2) :
  wpAny (model X.prog X.w) X.A (eval a X.env) (fun v s₁=>wpAny (model X.prog X.w) X.A (eval b X.env) (fun u s₂=>wpAny (model X.prog X.w) X.A (f v u) Q X.xe s₂) X.xe s₁) X.xe s:=by
 refine thn (ha pins s σ H _ I h) fun v s1 ⟨x,H1,I1,r1,q1⟩=>?_
 refine thn (hb pins s1 σ H1 _ I1 q1) fun u s2 ⟨y,H2,I2,r2,q2⟩=>?_
 exact hf v u s2 x y H2 I2 r1 r2 q2
def yx (i:Nat) : TE:=fun σ H Q=>∃ v,σ[i]? = some (some v)∧Q v H
def tC (v:V) : TE:=fun _ H Q=>Q v H
theorem kN {i:Nat} {x:Str} {pos:Pos} (hN:X.N[i]? = some x) (hv:Vis X.env.scope x) (hd:(x==("__debug__" : Str))=false:=by decide) (hcd:(x==("__classdict__" : Str))=false:=by decide) : PE X (.Name x pos) (yx i):=by
 intro pins s σ H Q I h
 obtain ⟨v,e,h⟩:=h
 obtain ⟨m,hn,hl⟩:=I.loc
 obtain ⟨u,r,l⟩:=hl i x v hN e hv
 have fin:EP X pins σ Q u s:=⟨v,H,I,r,h⟩
 rcases l with ⟨hk,hm⟩ | ⟨hk,c,hc,hcell⟩
 ·exact wpAny_Name (wpAny_loadName_local I.ok.kind hk hn hm fin) hd
 ·rcases hk with hk | hk
  ·exact wpAny_Name (wpAny_loadName_cell I.ok.kind hk hc hcell fin) hd
  ·exact wpAny_Name (wpAny_loadName_free I.ok.kind hk hc hcell fin hcd) hd
theorem ag {i j pos} : PE X (.Constant (.int i) j pos) (tC (.int i)):=fun _ _ _ H _ I h=>wpAny_Constant_int ⟨.int i,H,I.tok _,⟨_,rfl⟩,h⟩
theorem dI {b j pos} : PE X (.Constant (.bool b) j pos) (tC (.bl b)):=fun _ _ _ H _ I h=>Constant_bool ⟨.bl b,H,I,rfl,h⟩
theorem eG {j pos} : PE X (.Constant .none j pos) (tC .non):=fun _ _ _ H _ I h=>Constant_none ⟨.non,H,I,rfl,h⟩
theorem ay {x j pos} : PE X (.Constant (.str x) j pos) (tC (.str x)):=fun _ _ _ H _ I h=>Calls.Constant_str ⟨.str x,H,I.tok _,⟨_,rfl⟩,h⟩
def Gl (X:Cx) (x:Str) : Prop:=X.env.kindOf x=some .globalImplicit
theorem fQ {E:Value→Shared→Prop} {pins:List (Addr × Obj)} {s:Shared} {σ:St} {H:Hp} {x:Str} {u:Value} {pos:Pos} {Q:Value→Shared→Prop} (I:Inv X pins σ H s) (hg:Gl X x) (hm:X.mg x=some u) (h:Q u s)
  (hd:(x==("__debug__" : Str))=false:=by decide) : wpAny (model X.prog X.w) X.A (eval (.Name x pos) X.env) Q E s :=
 Calls.Name_function_global I.ok.kind hg (Calls.loadGlobal_global (by rw [I.ok.glob];exact I.mod.glob.keeps I.bk) hm h) hd
theorem f9 {E:Value→Shared→Prop} {pins:List (Addr × Obj)} {s:Shared} {σ:St} {H:Hp} {x:Str} {u:Value} {pos:Pos} {Q:Value→Shared→Prop} (I:Inv X pins σ H s) (hg:Gl X x) (hm:X.mg x=none) (hv:bootBuiltins x=some u) (h:Q u s)
  (hn:x ≠ "__name__":=by decide) (hd:(x==("__debug__" : Str))=false:=by decide) : wpAny (model X.prog X.w) X.A (eval (.Name x pos) X.env) Q E s:=by
 obtain ⟨mb,h1,h2⟩:=I.mod.blt
 exact Calls.Name_function_global I.ok.kind hg (Calls.loadGlobal_builtin (by rw [I.ok.glob];exact I.mod.glob.keeps I.bk) hm (by rw [I.ok.blt];exact h1.keeps I.bk) ((h2 x hn).trans hv) h) hd
theorem cz {x:Str} {v:V} {u:Value} {pos:Pos} (hg:Gl X x) (hm:X.mg x=some u) (r:RelV v u) (hd:(x==("__debug__" : Str))=false:=by decide) : PE X (.Name x pos) (tC v) :=
 fun _ _ _ H _ I h=>fQ I hg hm ⟨v,H,I,r,h⟩ hd
theorem ua {x:Str} {v:V} {u:Value} {pos:Pos} (hg:Gl X x) (hm:X.mg x=none) (hv:bootBuiltins x=some u) (r:RelV v u) (hn:x ≠ "__name__":=by decide) (hd:(x==("__debug__" : Str))=false:=by decide) : PE X (.Name x pos) (tC v) :=
 fun _ _ _ H _ I h=>f9 I hg hm hv ⟨v,H,I,r,h⟩ hn hd
variable {a b:Expr} {ta tb:TE} {pos:Pos}
def PC (X:Cx) (op:CmpOp) (a b:Expr) (t:TE) : Prop :=
 ∀ (pins:List (Addr × Obj)) (s:Shared) (σ:St) (H:Hp) (Q:VK),Inv X pins σ H s→t σ H Q →
  wpAny (model X.prog X.w) X.A (eval a X.env) (fun v s₁=>wpAny (model X.prog X.w) X.A (eval b X.env) (fun u s₂=>wpAny (model X.prog X.w) X.A (compareOp op v u) (EP X pins σ Q) X.xe s₂) X.xe s₁) X.xe s
def tB (t:TE) : TT:=fun σ H Q=>t σ H fun x H1=>∃ c,x=.bl c∧Q c H1
theorem pt_cmp {op:CmpOp} {t:TE} (h:PC X op a b t) (h1:behindInMarks op b=false:=by first | exact nobehind _ (by decide) (by decide) | rfl) : PT X (.Compare a [op] [b] pos) (tB t):=by
 intro pins s σ H Q I hw
 refine wpAny_isTrue_Compare1 (thn (h pins s σ H _ I hw) fun v s1 h1=>thn h1 fun u s2 h2=>thn h2 fun c s3 ⟨x,H1,I1,r1,q1⟩=>?_) h1
 obtain ⟨d,rfl,q⟩:=q1
 cases r1
 exact wpAny_truthy_bool ⟨H1,I1,q⟩
theorem dZ {e:Expr} {t:TE} (h:PE X e t) (he:∀ whole,isTrue e X.env whole=(do let v ← whole;standAt e.pos;holding [v] (truthy v)):=by intro _;rfl) : PT X e (tB t):=by
 intro pins s σ H Q I hw
 refine isTrue_plain (thn (h pins s σ H _ I hw) fun v s1 ⟨x,H1,I1,r1,q1⟩=>?_) (he _)
 obtain ⟨d,rfl,q⟩:=q1
 cases r1
 exact wpAny_truthy_bool ⟨H1,I1,q⟩
variable {tA tB':TT} {rest:List Expr}
def tAnd (t u:TT) : TT:=fun σ H Q=>t σ H fun c H1=>if c=true then u σ H1 Q else Q false H1
def tOr (t u:TT) : TT:=fun σ H Q=>t σ H fun c H1=>if c=true then Q true H1 else u σ H1 Q
def tNot (t:TT) : TT:=fun σ H Q=>t σ H fun c H1=>Q (!c) H1
theorem fS (ha:PT X a tA) : PW X (.BoolOp .And [a] pos) tA:=by
 intro wh pins s σ H Q I h
 refine isTrue_and (thn (ha pins s σ H Q I h) fun c s1 e=>?_)
 cases c with
 | true=>exact isTrue_and_nil e
 | false=>exact e
theorem cM (ha:PT X a tA) : PW X (.BoolOp .Or [a] pos) tA:=by
 intro wh pins s σ H Q I h
 refine isTrue_or (thn (ha pins s σ H Q I h) fun c s1 e=>?_)
 cases c with
 | false=>exact isTrue_or_nil e
 | true=>exact e
theorem iB (ha:PT X a tA) (hb:PW X (.BoolOp .And (b::rest) pos) tB') : PW X (.BoolOp .And (a::b::rest) pos) (tAnd tA tB'):=by
 intro wh pins s σ H Q I h
 refine isTrue_and (thn (ha pins s σ H _ I h) fun c s1 ⟨H1,I1,q1⟩=>?_)
 cases c with
 | true=>exact hb wh pins s1 σ H1 Q I1 q1
 | false=>exact ⟨H1,I1,q1⟩
theorem dJ (ha:PT X a tA) (hb:PW X (.BoolOp .Or (b::rest) pos) tB') : PW X (.BoolOp .Or (a::b::rest) pos) (tOr tA tB'):=by
 intro wh pins s σ H Q I h
 refine isTrue_or (thn (ha pins s σ H _ I h) fun c s1 ⟨H1,I1,q1⟩=>?_)
 cases c with
 | true=>exact ⟨H1,I1,q1⟩
 | false=>exact hb wh pins s1 σ H1 Q I1 q1
theorem fB (ha:PT X a tA) : PT X (.UnaryOp .Not a pos) (tNot tA):=by
 intro pins s σ H Q I h
 exact isTrue_not (ha pins s σ H (fun c H1=>Q (!c) H1) I h)
def tAndV (ta tb:TE) : TE:=fun σ H Q=>ta σ H fun x H1=>∃ c,x=.bl c∧if c=true then tb σ H1 Q else Q (.bl false) H1
def tNotV (ta:TE) : TE:=fun σ H Q=>ta σ H fun x H1=>∃ c,x=.bl c∧Q (.bl (!c)) H1
theorem qv {op} {t:TE} (h:PE X a t) : PE X (.BoolOp op [a] pos) t:=fun pins s σ H Q I hw=>BoolOp_one (h pins s σ H Q I hw)
theorem qw (ha:PE X a ta) (hb:PE X (.BoolOp .And (b::rest) pos) tb) : PE X (.BoolOp .And (a::b::rest) pos) (tAndV ta tb):=by
 intro pins s σ H Q I h
 refine BoolOp_and (thn (ha pins s σ H _ I h) fun v s1 ⟨x,H1,I1,r1,q1⟩=>?_)
 obtain ⟨c,rfl,q1⟩:=q1
 cases r1
 refine wpAny_truthy_bool ?_
 cases c with
 | true=>exact hb pins s1 σ H1 Q I1 q1
 | false=>exact ⟨.bl false,H1,I1,rfl,q1⟩
theorem vh (ha:PE X a ta) : PE X (.UnaryOp .Not a pos) (tNotV ta):=by
 intro pins s σ H Q I h
 refine UnaryOp_ (thn (ha pins s σ H _ I h) fun v s1 ⟨x,H1,I1,r1,q1⟩=>?_)
 obtain ⟨c,rfl,q1⟩:=q1
 cases r1
 exact not_of (wpAny_truthy_bool ⟨.bl (!c),H1,I1,rfl,q1⟩)
end
end L2
namespace L2
open PySem PySem.Spec PyProof.Rows
def SqL (K:Ay) (H:Hp) (a:Addr) (xs:List V) : Prop :=
 Rd H a (.lst xs) ∨
  ∃ (o:Obj) (its:Array Value) (n:Nat),K.lookup a=some o∧o.cls=.type "list" ∧ o.dict=none∧o.data=.seq its n∧its.size≤sizeLine∧Vals xs its.toList
def SqT (K:Ay) (H:Hp) (a:Addr) (xs:List V) : Prop :=
 Rd H a (.tup xs) ∨
  ∃ (o:Obj) (its:Array Value) (n:Nat),K.lookup a=some o∧o.cls=.type "tuple" ∧ o.data=.seq its n∧its.size≤sizeLine∧Vals xs its.toList
def absV:Value→Option V
 | .none=>some .non
 | .bool b=>some (.bl b)
 | .int i _=>some (.int i)
 | .str x _=>some (.str x)
 | .bytes b _=>some (.byt b)
 | .float b _=>some (.flt b)
 | .ref a=>some (.ref a)
 | .type n=>some (.ty n)
 | _=>none
theorem RelV.abs {x:V} {u:Value} (r:RelV x u) : absV u=some x:=by
 cases x with
 | non=>cases r;rfl
 | bl _=>cases r;rfl
 | int _=>obtain ⟨t,rfl⟩:=r;rfl
 | str _=>obtain ⟨t,rfl⟩:=r;rfl
 | byt _=>obtain ⟨t,rfl⟩:=r;rfl
 | flt _=>obtain ⟨t,rfl⟩:=r;rfl
 | ref _=>cases r;rfl
 | ty _=>cases r;rfl
theorem RelV.inj {x y:V} {u:Value} (r:RelV x u) (q:RelV y u) : x=y:=Option.some.inj (r.abs.symm.trans q.abs)
theorem Vals.inj:∀ {xs ys:List V} {us:List Value},Vals xs us→Vals ys us→xs=ys
 | _,_,_,.nil,.nil=>rfl
 | _,_,_,.cons r t,.cons r' t'=>by rw [r.inj r',Vals.inj t t']
section
variable {X:Cx} {pins:List (Addr × Obj)} {σ:St} {H:Hp} {s:Shared} {a:Addr} {xs ys:List V}
theorem SqL.of {K:Ay} (h:H a=some (.lst xs)) : SqL K H a xs:=.inl (.inl h)
theorem SqT.of {K:Ay} (h:H a=some (.tup xs)) : SqT K H a xs:=.inl (.inl h)
theorem Inv.list (I:Inv X pins σ H s) (h:SqL X.K H a xs) : ∃ its:List Value,Vals xs its∧PlainL s.heap a its.toArray∧xs.length≤sizeLine:=by
 rcases h with h | ⟨o,its,n,hk,hc,hd,hs,hz,r⟩
 ·obtain ⟨z,its,n,r,e⟩:=h.ok I.hok
  exact ⟨its,r,⟨_,n,e,rfl,rfl,rfl⟩,z⟩
 ·refine ⟨its.toList,r,⟨o,n,I.kIn a o hk,hc,hd,by simpa using hs⟩,?_⟩
  have e:=r.length
  simp only [Array.length_toList] at e
  omega
theorem Inv.tuple (I:Inv X pins σ H s) (h:SqT X.K H a xs) : ∃ its:List Value,Vals xs its∧IsTup s.heap a its.toArray∧xs.length≤sizeLine:=by
 rcases h with h | ⟨o,its,n,hk,hc,hs,hz,r⟩
 ·obtain ⟨z,its,r,p⟩:=h.ok I.hok
  exact ⟨its,r,p,z⟩
 ·refine ⟨its.toList,r,⟨o,I.kIn a o hk,hc,n,by simpa using hs⟩,?_⟩
  have e:=r.length
  simp only [Array.length_toList] at e
  omega
theorem Inv.qx (I:Inv X pins σ H s) (h:SqL X.K H a xs) (h':SqL X.K H a ys) : xs=ys:=by
 obtain ⟨its,r,⟨o,n,e,_,_,d⟩,_⟩:=I.list h
 obtain ⟨its',r',⟨o',n',e',_,_,d'⟩,_⟩:=I.list h'
 rw [e] at e';cases e'
 rw [d] at d'
 injection d' with d1 _
 have:its=its':=by simpa using congrArg Array.toList d1
 subst this
 exact r.inj r'
end
abbrev Cx.wish (X:Cx) (E:Value→Shared→Prop) : Cx:={ X with xe:=E }
abbrev Cx.nox (X:Cx) : Cx:=X.wish fun _ _=>False
theorem Cx.Ok.wish {X:Cx} (ok:X.Ok) (E:Value→Shared→Prop) : (X.wish E).Ok :=
 ⟨ok.mod,ok.kind,ok.glob,ok.blt,ok.above,ok.inj,ok.has,ok.cab,ok.hd,ok.frames,ok.stk,ok.exf,ok.bs,ok.bsz,ok.noex,ok.exfs,ok.funs,ok.frf⟩
theorem Cx.Ok.unwish {X:Cx} {E:Value→Shared→Prop} (ok:(X.wish E).Ok) : X.Ok :=
 ⟨ok.mod,ok.kind,ok.glob,ok.blt,ok.above,ok.inj,ok.has,ok.cab,ok.hd,ok.frames,ok.stk,ok.exf,ok.bs,ok.bsz,ok.noex,ok.exfs,ok.funs,ok.frf⟩
section
variable {X:Cx} {pins:List (Addr × Obj)} {σ:St} {H:Hp} {s:Shared} {E:Value→Shared→Prop}
theorem Inv.wish (I:Inv X pins σ H s) (E:Value→Shared→Prop) : Inv (X.wish E) pins σ H s:=⟨I.ok.wish E,I.os,I.bare,I.base,I.loc,I.cell,I.free,I.freeC,I.pin,I.hok,I.len⟩
theorem Inv.unwish (I:Inv (X.wish E) pins σ H s) : Inv X pins σ H s:=⟨I.ok.unwish,I.os,I.bare,I.base,I.loc,I.cell,I.free,I.freeC,I.pin,I.hok,I.len⟩
theorem SP.unwish {D:Ends} {f:Flow} {s':Shared} (h:SP (X.wish E) pins D f s') : SP X pins D f s':=by
 cases f with
 | next=>obtain ⟨σ',H',I,q⟩:=h;exact ⟨σ',H',I.unwish,q⟩
 | brk=>obtain ⟨σ',H',I,q⟩:=h;exact ⟨σ',H',I.unwish,q⟩
 | cont=>obtain ⟨σ',H',I,q⟩:=h;exact ⟨σ',H',I.unwish,q⟩
 | ret u=>obtain ⟨v,σ',H',I,r,q⟩:=h;exact ⟨v,σ',H',I.unwish,r,q⟩
theorem PSs.nox {st:List Stmt} {t:TS} (h:PSs X.nox st t) : PSs X st t:=fun pins s σ H D I hw =>
 wpAny_mono (h pins s σ H D (I.wish _) hw) (fun _ _ q=>q.unwish) fun _ _ z=>False.elim z
end
section
variable {X:Cx} {st:Stmt} {rest:List Stmt} {t u:TS} {e:Expr} {te:TE} {pos:Pos}
def tNext:TS:=fun D σ H=>D.nx σ H
def tSeq (t u:TS) : TS:=fun D σ H=>t { D with nx:=u D } σ H
theorem aB:PSs X [] tNext:=fun _ _ σ H _ I h=>wpAny_execs_nil ⟨σ,H,I,h⟩
theorem ae (h1:PS X st t) (h2:PSs X rest u) : PSs X (st::rest) (tSeq t u):=by
 intro pins s σ H D I h
 refine wpAny_execs_cons (thn (h1 pins s σ H { D with nx:=u D } I h) fun f s1 q=>?_)
 cases f with
 | next =>
  obtain ⟨σ',H',I',q⟩:=q
  exact h2 pins s1 σ' H' D I' q
 | ret v=>exact q
 | brk=>exact q
 | cont=>exact q
theorem ak (h1:PS X st t) : PSs X [st] t:=by
 intro pins s σ H D I h
 refine wpAny_execs_cons (thn (h1 pins s σ H D I h) fun f s1 q=>?_)
 cases f with
 | next=>exact wpAny_execs_nil q
 | ret v=>exact q
 | brk=>exact q
 | cont=>exact q
def tBreak:TS:=fun D σ H=>D.bk σ H
theorem qy:PS X (.Break pos) tBreak:=fun _ _ σ H _ I h=>wpAny_Break ⟨σ,H,I,h⟩
theorem Inv.quiet {pins:List (Addr × Obj)} {σ:St} {H:Hp} {s:Shared} (I:Inv X pins σ H s) : interactive X.env=false:=by simp [interactive,I.ok.kind]
def tDrop (te:TE) : TS:=fun D σ H=>te σ H fun _ H1=>D.nx σ H1
theorem aF (he:PE X e te) (hs:swapsWith e none pos.line X.env=pure false:=by rfl) : PS X (.Expr e pos) (tDrop te):=by
 intro pins s σ H D I h
 exact wpAny_Expr_any (thn (he pins s σ H _ I h) fun v s1 ⟨x,H1,I1,r1,q1⟩=>⟨σ,H1,I1,q1⟩) I.quiet hs
def tRet (te:TE) : TS:=fun D σ H=>te σ H D.rt
theorem aA (he:PE X e te) : PS X (.Return (some e) pos) (tRet te):=by
 intro pins s σ H D I h
 exact wpAny_Return_some (thn (he pins s σ H _ I h) fun v s1 ⟨x,H1,I1,r1,q1⟩=>⟨x,σ,H1,I1,r1,q1⟩)
def tIfS (c:TT) (t u:TS) : TS:=fun D σ H=>c σ H fun b H1=>if b=true then t D σ H1 else u D σ H1
theorem aH {c:Expr} {a b:List Stmt} {tc:TT} (hc:PT X c tc) (ha:PSs X a t) (hb:PSs X b u) : PS X (.If c a b pos) (tIfS tc t u):=by
 intro pins s σ H D I h
 refine wpAny_If (thn (hc pins s σ H _ I h) fun d s1 ⟨H1,I1,q1⟩=>?_)
 cases d with
 | true=>exact ha pins s1 σ H1 D I1 q1
 | false=>exact hb pins s1 σ H1 D I1 q1
end
abbrev TG:=V→St→Hp→(St→Hp→Prop)→Prop
abbrev TGs:=List V→St→Hp→(St→Hp→Prop)→Prop
def PG (X:Cx) (target:Expr) (t:TG) : Prop :=
 ∀ (pins:List (Addr × Obj)) (s:Shared) (σ:St) (H:Hp) (v:V) (u:Value) (Q:St→Hp→Prop),Inv X pins σ H s→RelV v u→t v σ H Q →
  wpAny (model X.prog X.w) X.A (assign target X.env u) (fun _ s'=>∃ σ' H',Inv X pins σ' H' s'∧Q σ' H') X.xe s
def PGs (X:Cx) (ts:List Expr) (t:TGs) : Prop :=
 ∀ (pins:List (Addr × Obj)) (s:Shared) (σ:St) (H:Hp) (vs:List V) (us:List Value) (Q:St→Hp→Prop),Inv X pins σ H s→Vals vs us→t vs σ H Q →
  wpAny (model X.prog X.w) X.A (assignInOrder ((assignEach ts X.env).map (·.2)) us) (fun _ s'=>∃ σ' H',Inv X pins σ' H' s'∧Q σ' H') X.xe s
abbrev TSet:=V→V→V→Hp→(Hp→Prop)→Prop
def PSet (X:Cx) (t:TSet) : Prop :=
 ∀ (pins:List (Addr × Obj)) (s:Shared) (σ:St) (H:Hp) (o i v:V) (ov iv u:Value) (Q:Hp→Prop),Inv X pins σ H s→RelV o ov→RelV i iv→RelV v u→t o i v H Q →
  wpAny (model X.prog X.w) X.A (setItem ov iv u) (fun _ s'=>∃ H',Inv X pins σ H' s'∧Q H') X.xe s
section
variable {X:Cx} {pos:Pos}
def gName (i:Nat) : TG:=fun v σ H Q=>Q (σ.set i (some v)) H
theorem aO {i:Nat} {x:Str} (hN:X.N.Nodup) (hi:X.N[i]? = some x) (hx:Loc X.env.scope x) (hf:X.fn x=true∨X.env.scope.names.lookup x=some .local:=by first | exact .inl rfl | exact .inr rfl | assumption) : PG X (.Name x pos) (gName i):=by
 intro pins s σ H v u Q I r h
 exact wpAny_assign_Name (jf I hN hi hx r (fun s' I'=>⟨_,H,I',h⟩) hf)
def gNil:TGs:=fun vs σ H Q=>vs=[]∧Q σ H
def gCons (t:TG) (u:TGs) : TGs:=fun vs σ H Q=>∃ v r,vs=v::r∧t v σ H fun σ' H'=>u r σ' H' Q
theorem i5:PGs X [] gNil:=by
 intro pins s σ H vs us Q I r h
 obtain ⟨e,h⟩:=h
 subst e
 cases r
 exact assignInOrder_nil ⟨σ,H,I,h⟩
theorem cE {e:Expr} {es:List Expr} {t:TG} {u:TGs} (h1:PG X e t) (h2:PGs X es u)
  (hs:(assignEach (e::es) X.env).map (·.2)=assign e X.env::(assignEach es X.env).map (·.2):=by rfl) : PGs X (e::es) (gCons t u):=by
 intro pins s σ H vs us Q I r h
 obtain ⟨v,vr,e1,h⟩:=h
 subst e1
 cases r with
 | cons r rr =>
  rw [hs]
  refine assignInOrder_cons (thn (h1 pins s σ H _ _ _ I r h) fun _ s1 ⟨σ1,H1,I1,q1⟩=>?_)
  exact h2 pins s1 σ1 H1 _ _ Q I1 rr q1
def gTup (K:Ay) (n:Nat) (t:TGs) : TG:=fun v σ H Q=>∃ a xs,v=.ref a∧SqT K H a xs∧xs.length=n∧t xs σ H Q
theorem kO {es:List Expr} {k:Nat} {t:TGs} {n:Nat} (hc:X.calm=true) (h:PGs X es t)
  (hn:(assignEach es X.env).length=n:=by rfl) (hst:(assignEach es X.env).findIdx? (·.1)=none:=by rfl) : PG X (.Tuple es k pos) (gTup X.K n t):=by
 intro pins s σ H v u Q I r hw
 obtain ⟨a,xs,e1,hq,hl,hw⟩:=hw
 subst e1
 cases r
 obtain ⟨its,rv,ht,hz⟩:=I.tuple hq
 refine assign_Tuple_tuple (I.ok.hd hc) ht (by simp [hn,← hl,rv.length]) hst fun h' hx=>?_
 have I1:Inv X pins σ H { s with heap:=h' }:=I.kept (t':=s.toks) fun b o e=>hx b o (Nat.ne_of_lt (Jv e)) e
 exact h pins _ σ H xs _ Q I1 (by simpa using rv) hw
def gSub (to ti:TE) (t:TSet) : TG:=fun v σ H Q=>to σ H fun o H1=>ti σ H1 fun i H2=>t o i v H2 fun H3=>Q σ H3
theorem eI {o i:Expr} {to ti:TE} {t:TSet} (ho:PE X o to) (hi:PE X i ti) (hs:PSet X t)
  (ha:∀ v,assign (.Subscript o i pos) X.env v=(do
   let ov ← holding [v] (eval o X.env)
   let iv ← holding [v,ov] (eval i X.env)
   standAt pos
   holding [v,ov,iv] (setItem ov iv v)
   release [v,ov,iv] []):=by intro _;rfl) : PG X (.Subscript o i pos) (gSub to ti t):=by
 intro pins s σ H v u Q I r h
 rw [ha]
 refine Jf (wpAny_holding (thn (ho pins s σ H _ I h) fun ov s1 ⟨x,H1,I1,r1,q1⟩=>?_))
 refine Jf (wpAny_holding (thn (hi pins s1 σ H1 _ I1 q1) fun iv s2 ⟨y,H2,I2,r2,q2⟩=>?_))
 refine Jf (wpAny_standAt (Jf (wpAny_holding (thn (hs pins s2 σ H2 x y v ov iv u _ I2 r1 r2 r q2) fun _ s3 ⟨H3,I3,q3⟩=>?_))))
 exact wpAny_release ⟨σ,H3,I3,q3⟩
def tAsg (te:TE) (g:TG) : TS:=fun D σ H=>te σ H fun x H1=>g x σ H1 D.nx
theorem cT {tg e:Expr} {te:TE} {g:TG} (he:PE X e te) (hg:PG X tg g) (hs:swapsWithSole [tg] e pos.line X.env=pure false:=by rfl) (hw:swappedStores [tg] e X.env=pure none:=by rfl)
  (h1:(assignEach [tg] X.env).map (·.2)=[assign tg X.env]:=by rfl) : PS X (.Assign [tg] e pos) (tAsg te g):=by
 intro pins s σ H D I h
 refine wpAny_Assign_stores (thn (he pins s σ H _ I h) fun v s1 ⟨x,H1,I1,r1,q1⟩=>?_) hs hw
 rw [h1]
 exact thn (hg pins s1 σ H1 x v _ I1 r1 q1) fun _ s2 q=>q
theorem aC {i:Nat} {x:Str} {e:Expr} {te:TE} {pos':Pos} (hN:X.N.Nodup) (hi:X.N[i]? = some x) (hx:Loc X.env.scope x) (he:PE X e te) (hs:swapsWith e (some (.Name x pos')) pos.line X.env=pure false:=by rfl) (hf:X.fn x=true∨X.env.scope.names.lookup x=some .local:=by first | exact .inl rfl | exact .inr rfl | assumption) :
  PS X (.Assign [.Name x pos'] e pos) (tAsg te (gName i)):=by
 intro pins s σ H D I h
 refine wpAny_Assign_Name (thn (he pins s σ H _ I h) fun v s1 ⟨y,H1,I1,r1,q1⟩=>?_) hs
 exact jf I1 hN hi hx r1 (fun s2 I2=>⟨_,H1,I2,q1⟩) hf
end
section
variable {X:Cx} {pos:Pos}
def tWhile (c:TT) (tb:TS) : TS:=fun D σ H=>∃ W:Nat→St→Hp→Prop,(∃ m,W m σ H)∧∀ m σ H,W m σ H →
 c σ H fun b H1=>if b=true then ∃ N:St→Hp→Prop,(∀ σ' H',N σ' H'→∃ m',m'<m∧W m' σ' H')∧tb { D with nx:=N,ct:=N,bk:=D.nx } σ H1 else D.nx σ H1
theorem gG {c:Expr} {body:List Stmt} {tc:TT} {tb:TS} (hp:PassesOwn (model X.prog X.w) X.A X.env X.xe) (hc:PT X c tc) (hb:PSs X body tb) : PS X (.While c body [] pos) (tWhile tc tb):=by
 intro pins s σ H D I h
 obtain ⟨W,⟨m0,w0⟩,turn⟩:=h
 refine wpAny_While (codeAny_whileLoop (fun n s'=>∃ σ' H',Inv X pins σ' H' s'∧W n σ' H') ?_ m0 ⟨σ,H,I,w0⟩)
 rintro n s1 ⟨σ1,H1,I1,w1⟩
 refine wpAny_passesOwn hp (thn (hc pins s1 σ1 H1 _ I1 (turn n σ1 H1 w1)) fun b s2 ⟨H2,I2,q2⟩=>?_)
 cases b with
 | true =>
  obtain ⟨N,hN,q2⟩:=q2
  rw [J3 rfl]
  refine wpAny_passesOwn hp (thn (hb pins s2 σ1 H2 _ I2 q2) fun f s3 q3=>?_)
  cases f with
  | next =>
   obtain ⟨σ3,H3,I3,n3⟩:=q3
   obtain ⟨m',hm,w3⟩:=hN σ3 H3 n3
   exact ⟨m',hm,σ3,H3,I3,w3⟩
  | cont =>
   obtain ⟨σ3,H3,I3,n3⟩:=q3
   obtain ⟨m',hm,w3⟩:=hN σ3 H3 n3
   exact ⟨m',hm,σ3,H3,I3,w3⟩
  | brk=>exact q3
  | ret v=>exact q3
 | false =>
  rw [J0 Jn]
  exact wpAny_execs_nil ⟨σ1,H2,I2,q2⟩
end
structure It where
 go:Nat→Hp→Prop
 yld:Nat→Hp→V→Hp→Prop
 stop:Nat→Hp→Prop
def zz (X:Cx) (pins:List (Addr × Obj)) (H:Hp) (b:Addr) : Prop :=
 H b=none∧b≠X.env.locals∧b∉X.fs∧(b∈X.ex∨X.s₀.heap.objs.size≤b)∧(∀ x c,X.env.cells.lookup x=some c→c≠b)∧∀ p∈X.pn++pins,p.1≠b
theorem Inv.fpOk {X:Cx} {pins:List (Addr × Obj)} {σ:St} {H H':Hp} {s:Shared} {b:Addr} (I:Inv X pins σ H s) (hb:s.heap.objs.size≤b) (hn:H' b=none) : zz X pins H' b:=by
 refine ⟨hn,Nat.ne_of_gt (Nat.lt_of_lt_of_le I.lt hb),I.nofs hb,.inr (Ju I.sz hb),fun x c e z=>?_,fun p hp z=>?_⟩
 ·obtain ⟨v,q⟩:=I.cell x c e
  exact absurd (Nat.lt_of_lt_of_le q.lt (by rw [z];exact hb)) (Nat.lt_irrefl _)
 ·exact absurd (Nat.lt_of_lt_of_le (Jv (I.pin p hp).1) (by rw [z];exact hb)) (Nat.lt_irrefl _)
structure Turn (P:Program) (w:World) (K:Ay) (tg:Expr) (J:It) (fp:List Addr) (it:Addr) (tn:Nat→Heap→Prop) : Prop where
 mem:it∈fp
 obj:∀ i h,tn i h→∀ b∈fp,∃ o,h.get? b=some o∧∀ v,o.data≠.cell v
 keep:∀ i h h',tn i h→(∀ b∈fp,∀ o,h.get? b=some o→h'.get? b=some o)→tn i h'
 item:∀ (X:Cx),X.prog=P→X.w=w→X.K=K→X.calm=true→∀ (i:Nat) (pins:List (Addr × Obj)) (s:Shared) (σ:St) (H:Hp) (E:Value→Shared→Prop),Inv X pins σ H s→(∀ b∈fp,zz X pins H b)→tn i s.heap→J.go i H →
  wpAny (model P w) X.A (pyNext (.ref it)) (fun r s1=>∃ u,r=some u ∧
   wpAny (model P w) X.A (letOwnedTupleGo tg (.ref it) u) (fun _ s2=>∃ x H',Inv X pins σ H' s2∧RelV x u∧J.yld i H x H'∧tn (i+1) s2.heap∧∀ b∈fp,H' b=none) E s1) E s
 done:∀ (X:Cx),X.prog=P→X.w=w→X.K=K→X.calm=true→∀ (i:Nat) (pins:List (Addr × Obj)) (s:Shared) (σ:St) (H:Hp) (E:Value→Shared→Prop),Inv X pins σ H s→(∀ b∈fp,zz X pins H b)→tn i s.heap→J.stop i H →
  wpAny (model P w) X.A (pyNext (.ref it)) (fun r s1=>r=none∧Inv X pins σ H s1) E s
 self:∀ (A:Around) (i:Nat) (s:Shared) (Q:Value→Shared→Prop) (E:Value→Shared→Prop),tn i s.heap→Q (.ref it) s→wpAny (model P w) A (pyIter (.ref it)) Q E s
abbrev TI:=St→Hp→(It→Hp→Prop)→Prop
def PIE (X:Cx) (pins:List (Addr × Obj)) (σ:St) (tg:Expr) (R:It→Hp→Prop) (itv:Value) (s2:Shared) : Prop :=
 ∃ (it:Addr) (fp:List Addr) (tn:Nat→Heap→Prop) (J:It) (H':Hp),itv=.ref it∧Inv X pins σ H' s2∧Turn X.prog X.w X.K tg J fp it tn∧tn 0 s2.heap∧(∀ b∈fp,zz X pins H' b)∧R J H'
def PI (X:Cx) (tg iter:Expr) (wi:TI) : Prop :=
 ∀ (pins:List (Addr × Obj)) (s:Shared) (σ:St) (H:Hp) (R:It→Hp→Prop),Inv X pins σ H s→wi σ H R →
  wpAny (model X.prog X.w) X.A (eval iter X.env) (fun v s1=>wpAny (model X.prog X.w) X.A (pyIter v) (PIE X pins σ tg R) X.xe s1) X.xe s
theorem qz {M:Model} {A:Around} {E:Value→Shared→Prop} {s:Shared} {tg:Expr} {it:Addr} {u:Value} {o:Obj} {n:String} {vs:Array Value} {Q:Unit→Shared→Prop} (ho:s.heap.get? it=some o) (hc:o.cls=.type n) (hd:o.data=.fields vs)
    (hn : ["enumerate","zip","dict_itemiterator","dict_reverseitemiterator","odict_iterator","itertools.zip_longest","itertools.pairwise"].contains n=false) (hQ:Q () s) : wpAny M A (letOwnedTupleGo tg (.ref it) u) Q E s:=by
  unfold letOwnedTupleGo
  cases tg <;> first
    | exact Y0 hQ
    | (cases u <;> first
        | exact Y0 hQ
        | (refine Jf (wpAny_load ho ?_)
           rw [hc,hd]
           show wpAny M A (if (["enumerate","zip","dict_itemiterator","dict_reverseitemiterator","odict_iterator","itertools.zip_longest","itertools.pairwise"].contains n && vs[0]? == some (rawInt _))=true then _ else _) Q E s
           rw [J0 (by intro h;rw [hn,Bool.false_and] at h;cases h)]
           exact Y0 hQ))
def Itl (K:Ay) (a:Addr) : It :=
 ⟨fun i H=>∃ xs x,SqL K H a xs∧xs[i]? = some x,fun i H x H'=>H'=H∧∀ xs,SqL K H a xs→xs[i]? = some x,fun i H=>∃ xs,SqL K H a xs∧xs.length≤i⟩
def Itr (lo:Int) (n:Nat) : It:=⟨fun i _=>i<n,fun i H x H'=>H'=H∧x=.int (lo+i),fun i _=>n≤i⟩
theorem oR {P:Program} {w:World} {K:Ay} {tg:Expr} (a it:Addr) : Turn P w K tg (Itl K a) [it] it (fun i h=>h.IsListIter it a i) where
 mem:=by simp
 obj:=fun i h st b hb=>by
  have e:b=it:=by simpa using hb
  subst e
  obtain ⟨o,e,c,d⟩:=st
  exact ⟨o,e,fun v z=>by rw [d] at z;cases z⟩
 keep:=fun i h h' st k=>st.at fun o e=>k it (by simp) o e
 item:=by
  intro X hP hw hK hc i pins s σ H E I hf st hg
  subst hP hw hK
  obtain ⟨xs,x,hq,hx⟩:=hg
  obtain ⟨its,rv,p,hz⟩:=I.list hq
  obtain ⟨u,hu,ru⟩:=rv.get hx
  obtain ⟨f0,f1,f2,f3,f4,f5⟩:=hf it (by simp)
  refine wpAny_pyNext_list_item st p.isList (x:=u) (by simpa using hu) fun h' st' sb=>?_
  have I1:Inv X pins σ H { s with heap:=h' }:=I.turned (t':=s.toks) (fun b o hb e=>(sb.2 b hb).trans e) f0 f1 f3 f4 f5
  obtain ⟨o,e,c,d⟩:=id st'
  exact ⟨u,rfl,qz (s:={ s with heap:=h' }) e c d (by decide) ⟨x,H,I1,ru,⟨rfl,fun ys hy=>by rw [I.qx hy hq];exact hx⟩,st',fun b hb=>(hf b hb).1⟩⟩
 done:=by
  intro X hP hw hK hc i pins s σ H E I hf st hg
  subst hP hw hK
  obtain ⟨xs,hq,hx⟩:=hg
  obtain ⟨its,rv,p,hz⟩:=I.list hq
  obtain ⟨f0,f1,f2,f3,f4,f5⟩:=hf it (by simp)
  have hl:=rv.length
  exact wpAny_pyNext_list_end (I.ok.hd hc) st p.isList (by simp;omega) fun h' eb=>⟨rfl,I.turned (t':=s.toks) (fun b o hb e=>eb b o hb e) f0 f1 f3 f4 f5⟩
 self:=fun _ _ _ _ _ st h=>wpAny_pyIter_listiter st h
theorem jg {P:Program} {w:World} {K:Ay} {tg:Expr} (it:Addr) (lo:Int) (n:Nat) : Turn P w K tg (Itr lo n) [it] it (fun i h=>IsRangeIter h it (lo+(i:Nat)*1) ((n:Int)-(i:Nat)) 1) where
 mem:=by simp
 obj:=fun i h st b hb=>by
  have e:b=it:=by simpa using hb
  subst e
  exact ⟨_,st,fun v z=>by
   have z':Data.fields _=Data.cell v:=z
   cases z'⟩
 keep:=fun i h h' st k=>k it (by simp) _ st
 item:=by
  intro X hP hw hK hc i pins s σ H E I hf st hg
  subst hP hw hK
  obtain ⟨f0,f1,f2,f3,f4,f5⟩:=hf it (by simp)
  have W:=Walks.range (prog:=X.prog) (w:=X.w) (I.ok.hd hc) it lo 1 n
  refine W.item i s _ _ hg st fun v h' tk hv st' kk=>?_
  obtain ⟨t,rfl⟩:=hv
  have I1:Inv X pins σ H { s with heap:=h',toks:=tk }:=I.turned (fun b o hb e=>kk b o (by simpa using hb) e) f0 f1 f3 f4 f5
  refine ⟨_,rfl,qz (s:={ s with heap:=h',toks:=tk }) (n:="range_iterator") st' rfl rfl (by decide) ⟨.int (lo+i),H,I1,⟨t,?_⟩,⟨rfl,rfl⟩,st',fun b hb=>(hf b hb).1⟩⟩
  rw [Int.mul_one]
 done:=by
  intro X hP hw hK hc i pins s σ H E I hf st hg
  subst hP hw hK
  obtain ⟨f0,f1,f2,f3,f4,f5⟩:=hf it (by simp)
  exact wpAny_pyNext_range_end (I.ok.hd hc) st (by have:n≤i:=hg;omega) fun h' eb=>⟨rfl,I.turned (t':=s.toks) (fun b o hb e=>eb b o hb e) f0 f1 f3 f4 f5⟩
 self:=fun _ _ _ _ _ st h=>wpAny_pyIter_rangeiter st h
end L2
namespace L2
open PySem PySem.Spec PyProof.Rows
section
variable {X:Cx} {tg:Expr}
def iList (K:Ay) (tl:TE) : TI:=fun σ H R=>tl σ H fun x H1=>∃ a,x=.ref a∧(∃ xs,SqL K H1 a xs)∧R (Itl K a) H1
theorem bC {l:Expr} {tl:TE} (hl:PE X l tl) : PI X tg l (iList X.K tl):=by
 intro pins s σ H R I h
 refine thn (hl pins s σ H _ I h) fun v s1 ⟨x,H1,I1,r1,q1⟩=>?_
 obtain ⟨a,e,⟨xs,hq⟩,q⟩:=q1
 subst e
 cases r1
 obtain ⟨its,rv,p,hz⟩:=I1.list hq
 refine wpAny_pyIter_list p.isList ?_
 refine ⟨s1.heap.objs.size,[s1.heap.objs.size],_,_,H1,rfl,I1.kept (t':=s1.toks) fun b o e=>Jh _ e,oR a _,⟨_,Heap.get?_push_size _ rfl,rfl,rfl⟩,fun b hb=>?_,q⟩
 have e:b=s1.heap.objs.size:=by simpa using hb
 subst e
 exact I1.fpOk (Jm _) (I1.hok.fresh (Jm _))
theorem qA {pins:List (Addr × Obj)} {σ:St} {H:Hp} {s:Shared} {R:It→Hp→Prop} {E:Value→Shared→Prop} {lo hi:Int} {t u v:Tok} {tk:Nat} (I:Inv X pins σ H s) (h1 : -(2 ^ 62)≤lo) (h2:lo<2 ^ 62) (h3 : -(2 ^ 62)≤hi) (h4:hi<2 ^ 62)
  (q:R (Itr lo (hi-lo).toNat) H) : wpAny (model X.prog X.w) X.A (pyIter (.ref s.heap.objs.size)) (PIE X pins σ tg R) E { s with heap:=s.heap.push { cls:=.type "range",data:=.fields #[.int lo t,.int hi u,.int 1 v] },toks:=tk }:=by
 refine wpAny_pyIter_range (IsRange.new ..) (small_one h1 h2 h3 h4) ?_
 have I1:Inv X pins σ H { s with heap:=s.heap.push { cls:=.type "range",data:=.fields #[.int lo t,.int hi u,.int 1 v] },toks:=tk }:=I.kept fun b o e=>Jh _ e
 refine ⟨(s.heap.push { cls:=.type "range",data:=.fields #[.int lo t,.int hi u,.int 1 v] }).objs.size,[(s.heap.push { cls:=.type "range",data:=.fields #[.int lo t,.int hi u,.int 1 v] }).objs.size],_,_,H,rfl,
  I1.kept (t':=tk) fun b o e=>Jh _ e,jg _ lo (hi-lo).toNat,?_,fun b hb=>?_,q⟩
 ·have e1:lo+((0:Nat) : Int)*1=lo:=by simp
  have e2:(((hi-lo).toNat:Nat) : Int)-((0:Nat) : Int)=Builtin.Range.rangeSize lo hi 1:=by rw [rangeSize_one];split <;> omega
  show IsRangeIter _ _ (lo+((0:Nat) : Int)*1) ((((hi-lo).toNat:Nat) : Int)-((0:Nat) : Int)) 1
  rw [e1,e2]
  exact Heap.get?_push_size _ rfl
 ·have e:b=(s.heap.push { cls:=.type "range",data:=.fields #[.int lo t,.int hi u,.int 1 v] }).objs.size:=by simpa using hb
  subst e
  exact I1.fpOk (Jm _) (I1.hok.fresh (Jm _))
def iRng1 (ta:TA) : TI:=fun σ H R=>ta σ H fun vs H1=>∃ j:Int,vs=[.int j] ∧ -(2 ^ 62)≤j∧j<2 ^ 62∧R (Itr 0 j.toNat) H1
theorem dS {a:Expr} {ta:TA} {p pos:Pos} (hg:Gl X "range") (hm:X.mg "range" = none) (ha:PA X [a] ta) (hs:starEach [a] X.env=[(false,eval a X.env)]:=by rfl) : PI X tg (.Call (.Name "range" p) [a] [] pos) (iRng1 ta):=by
 intro pins s σ H R I h
 refine Call_ (f9 I hg hm boot_range (PyProof.Rows.callWith_type1 (thn (ha pos pins s σ H _ I h) fun us s1 ⟨vs,H1,I1,r1,q1⟩=>?_) hs rfl))
 obtain ⟨j,e,q1,q2,q⟩:=q1
 subst e
 cases r1 with
 | cons r rr =>
  cases rr
  obtain ⟨t,rfl⟩:=r
  exact call_range_1 (qA I1 (by omega) (by omega) q1 q2 (by simpa using q))
def tFor (wi:TI) (g:TG) (tb:TS) : TS:=fun D σ H=>wi σ H fun J H1=>∃ W:Nat→Nat→St→Hp→Prop,(∃ m,W 0 m σ H1)∧∀ i m σ H,W i m σ H →
 (J.stop i H∧D.nx σ H)∨(J.go i H∧∃ N:St→Hp→Prop,(∀ σ' H',N σ' H'→∃ m',m'<m∧W (i+1) m' σ' H')∧∀ x H',J.yld i H x H'→g x σ H' fun σ2 H2=>tb { D with nx:=N,ct:=N,bk:=D.nx } σ2 H2)
def yy (fp:List Addr) (h:Heap) : List (Addr × Obj):=fp.filterMap fun b=>(h.get? b).map fun o=>(b,o)
theorem eX {fp:List Addr} {h:Heap} {b:Addr} {o:Obj} (hb:b∈fp) (e:h.get? b=some o) : (b,o)∈yy fp h:=List.mem_filterMap.mpr ⟨b,hb,by rw [e];rfl⟩
theorem oS {fp:List Addr} {h:Heap} {p:Addr × Obj} (hp:p∈yy fp h) : p.1∈fp∧h.get? p.1=some p.2:=by
 obtain ⟨b,hb,e⟩:=List.mem_filterMap.mp hp
 cases q:h.get? b with
 | none=>rw [q] at e;cases e
 | some o =>
  rw [q] at e
  have e':(b,o)=p:=Option.some.inj e
  subst e'
  exact ⟨hb,q⟩
theorem Inv.pinned {pins:List (Addr × Obj)} {σ:St} {H:Hp} {s:Shared} {fp:List Addr} (I:Inv X pins σ H s) (hf:∀ b∈fp,zz X pins H b) (ho:∀ b∈fp,∃ o,s.heap.get? b=some o∧∀ v,o.data≠.cell v) : Inv X (pins++yy fp s.heap) σ H s :=
 I.kM fun p hp=>(Y1.mp hp).elim (fun z=>I.pin p (Yc _ z)) fun z=>by
  obtain ⟨hb,e⟩:=oS z
  obtain ⟨f0,f1,f2,_⟩:=hf p.1 hb
  obtain ⟨o,e',d⟩:=ho p.1 hb
  rw [e] at e';cases e'
  exact ⟨e,f0,f1,f2,d⟩
theorem Inv.unpinned {pins pl:List (Addr × Obj)} {σ:St} {H:Hp} {s:Shared} (I:Inv X (pins++pl) σ H s) : Inv X pins σ H s:=I.kM fun p hp=>I.pin p (Yc _ (Ye _ hp))
theorem bU {iter:Expr} {body:List Stmt} {wi:TI} {g:TG} {tb:TS} {pos:Pos} (hp:PassesOwn (model X.prog X.w) X.A X.env X.xe) (hc:X.calm=true) (hi:PI X tg iter wi) (hg:PG X tg g) (hb:PSs X body tb)
  (hs:∀ x,foldedSetIterable iter X.env x=pure x:=by intro _;rfl) : PS X (.For tg iter body [] pos) (tFor wi g tb):=by
 intro pins s σ H D I h
 refine wpAny_For (thn (hi pins s σ H _ I h) fun v s1 h1=>thn h1 fun itv s2 h2=>?_) hs
 obtain ⟨it,fp,tn,J,H2,e,I2,T,st2,f2,W,⟨m0,w0⟩,turn⟩:=h2
 subst e
 have stat:∀ {H':Hp},(∀ b∈fp,H' b=none)→∀ b∈fp,zz X pins H' b:=fun hn b hb=>⟨hn b hb,(f2 b hb).2⟩
 refine codeAny_forLoop_any (fun n s'=>∃ i σ' H',Inv X pins σ' H' s'∧tn i s'.heap∧(∀ b∈fp,H' b=none)∧W i n σ' H') ?_ m0 ⟨0,σ,H2,I2,st2,fun b hb=>(f2 b hb).1,w0⟩
 rintro n s3 ⟨i,σ3,H3,I3,st3,fr3,w3⟩
 rcases turn i n σ3 H3 w3 with ⟨stop,qn⟩ | ⟨go,N,hN,step⟩
 ·refine wpAny_passesOwn hp (thn (T.done X rfl rfl rfl hc i pins s3 σ3 H3 X.xe I3 (stat fr3) st3 stop) fun r s4 ⟨hr,I4⟩=>?_)
  subst hr
  exact wpAny_execs_nil ⟨σ3,H3,I4,qn⟩
 ·refine wpAny_passesOwn hp (thn (T.item X rfl rfl rfl hc i pins s3 σ3 H3 X.xe I3 (stat fr3) st3 go) fun r s4 ⟨u,hr,h4⟩=>?_)
  subst hr
  refine wpAny_passesOwn hp (thn h4 fun _ s5 ⟨x,H5,I5,r5,y5,st5,fr5⟩=>?_)
  have I5':=I5.pinned (stat fr5) (T.obj _ _ st5)
  refine wpAny_passesOwn hp (thn (hg _ s5 σ3 H5 x u _ I5' r5 (step x H5 y5)) fun _ s6 ⟨σ6,H6,I6,q6⟩=>?_)
  refine wpAny_passesOwn hp (thn (hb _ s6 σ6 H6 _ I6 q6) fun f s7 q7=>?_)
  have again:∀ {σ7:St} {H7:Hp},Inv X (pins++yy fp s5.heap) σ7 H7 s7→N σ7 H7→∃ m,m<n∧∃ i σ' H',Inv X pins σ' H' s7∧tn i s7.heap∧(∀ b∈fp,H' b=none)∧W i m σ' H':=fun {σ7 H7} I7 n7=>by
   obtain ⟨m',hm,w7⟩:=hN σ7 H7 n7
   refine ⟨m',hm,i+1,σ7,H7,I7.unpinned,T.keep _ _ _ st5 fun b hb o e=>(I7.pin (b,o) (Yc _ (Yc _ (eX hb e)))).1,fun b hb=>?_,w7⟩
   obtain ⟨o,e,d⟩:=T.obj _ _ st5 b hb
   exact (I7.pin (b,o) (Yc _ (Yc _ (eX hb e)))).2.1
  cases f with
  | next=>obtain ⟨σ7,H7,I7,n7⟩:=q7;exact again I7 n7
  | cont=>obtain ⟨σ7,H7,I7,n7⟩:=q7;exact again I7 n7
  | brk=>obtain ⟨σ7,H7,I7,q7⟩:=q7;exact ⟨σ7,H7,I7.unpinned,q7⟩
  | ret v=>obtain ⟨x7,σ7,H7,I7,r7,q7⟩:=q7;exact ⟨x7,σ7,H7,I7.unpinned,r7,q7⟩
end
theorem bZ {K:Ay} {a:Addr} {xs:List V} {g:TG} {tb:TS} {D:Ends} {σ:St} {H:Hp} (Pv:Nat→St→Hp→Prop) (h0:Pv 0 σ H) (hl:∀ i σ H,i≤xs.length→Pv i σ H→SqL K H a xs)
  (hs:∀ i x σ H,xs[i]? = some x→Pv i σ H→g x σ H fun σ2 H2=>tb { D with nx:=Pv (i+1),ct:=Pv (i+1),bk:=D.nx } σ2 H2) (hd:∀ σ H,Pv xs.length σ H→D.nx σ H) :
  ∃ W:Nat→Nat→St→Hp→Prop,(∃ m,W 0 m σ H)∧∀ i m σ H,W i m σ H →
   ((Itl K a).stop i H∧D.nx σ H)∨((Itl K a).go i H∧∃ N:St→Hp→Prop,(∀ σ' H',N σ' H'→∃ m',m'<m∧W (i+1) m' σ' H')∧∀ x H',(Itl K a).yld i H x H'→g x σ H' fun σ2 H2=>tb { D with nx:=N,ct:=N,bk:=D.nx } σ2 H2):=by
 refine ⟨fun i m σ H=>m=xs.length-i∧i≤xs.length∧Pv i σ H,⟨xs.length,by simp,Nat.zero_le _,h0⟩,?_⟩
 rintro i m σ H ⟨rfl,hi,p⟩
 have q:=hl i σ H hi p
 by_cases hlt:i<xs.length
 ·refine .inr ⟨⟨xs,xs[i],q,by simp [hlt]⟩,Pv (i+1),fun σ' H' p'=>⟨xs.length-(i+1),by omega,rfl,hlt,p'⟩,fun x H' y=>?_⟩
  obtain ⟨e,y⟩:=y
  subst e
  exact hs i x σ _ (y xs q) p
 ·have e:i=xs.length:=by omega
  subst e
  exact .inl ⟨⟨xs,q,Jm _⟩,hd σ H p⟩
theorem cO {lo:Int} {n:Nat} {g:TG} {tb:TS} {D:Ends} {σ:St} {H:Hp} (Pv:Nat→St→Hp→Prop) (h0:Pv 0 σ H)
  (hs:∀ i σ H,i<n→Pv i σ H→g (.int (lo+i)) σ H fun σ2 H2=>tb { D with nx:=Pv (i+1),ct:=Pv (i+1),bk:=D.nx } σ2 H2) (hd:∀ σ H,Pv n σ H→D.nx σ H) :
  ∃ W:Nat→Nat→St→Hp→Prop,(∃ m,W 0 m σ H)∧∀ i m σ H,W i m σ H →
   ((Itr lo n).stop i H∧D.nx σ H)∨((Itr lo n).go i H∧∃ N:St→Hp→Prop,(∀ σ' H',N σ' H'→∃ m',m'<m∧W (i+1) m' σ' H')∧∀ x H',(Itr lo n).yld i H x H'→g x σ H' fun σ2 H2=>tb { D with nx:=N,ct:=N,bk:=D.nx } σ2 H2):=by
 refine ⟨fun i m σ H=>m=n-i∧i≤n∧Pv i σ H,⟨n,by simp,Nat.zero_le _,h0⟩,?_⟩
 rintro i m σ H ⟨rfl,hi,p⟩
 by_cases hlt:i<n
 ·refine .inr ⟨hlt,Pv (i+1),fun σ' H' p'=>⟨n-(i+1),by omega,rfl,hlt,p'⟩,fun x H' y=>?_⟩
  obtain ⟨e,y⟩:=y
  subst e y
  exact hs i σ _ hlt p
 ·have e:i=n:=by omega
  subst e
  exact .inl ⟨Jm _,hd σ H p⟩
end L2
namespace L2
open PySem PySem.Spec PyProof.Rows
abbrev R2:=V→V→Hp→VK→Prop
def OpR (X:Cx) (f:Value→Value→Sem Value) (r:R2) : Prop :=
 ∀ (pins:List (Addr × Obj)) (s:Shared) (σ:St) (H:Hp) (x y:V) (v u:Value) (Q:VK),Inv X pins σ H s→RelV x v→RelV y u→r x y H Q →
  wpAny (model X.prog X.w) X.A (f v u) (EP X pins σ Q) X.xe s
def UnR (X:Cx) (f:Value→Sem Value) (r:V→Hp→VK→Prop) : Prop :=
 ∀ (pins:List (Addr × Obj)) (s:Shared) (σ:St) (H:Hp) (x:V) (v:Value) (Q:VK),Inv X pins σ H s→RelV x v→r x H Q →
  wpAny (model X.prog X.w) X.A (f v) (EP X pins σ Q) X.xe s
def xU (X:Cx) (f:Value) (r:List V→Hp→VK→Prop) : Prop :=
 ∀ (pins:List (Addr × Obj)) (s:Shared) (σ:St) (H:Hp) (xs:List V) (us:List Value) (Q:VK),Inv X pins σ H s→Vals xs us→r xs H Q →
  wpAny (model X.prog X.w) X.A (call f us) (EP X pins σ Q) X.xe s
def tOp (r:R2) (ta tb:TE) : TE:=fun σ H Q=>ta σ H fun x H1=>tb σ H1 fun y H2=>r x y H2 Q
def tUn (r:V→Hp→VK→Prop) (ta:TE) : TE:=fun σ H Q=>ta σ H fun x H1=>r x H1 Q
def rI (C:Int→Int→Prop) (g:Int→Int→V) : R2:=fun x y H Q=>∃ i j,x=.int i∧y=.int j∧C i j∧Q (g i j) H
def rI0 (g:Int→Int→V) : R2:=fun x y H Q=>∃ i j,x=.int i∧y=.int j∧Q (g i j) H
def rU (g:Int→V) : V→Hp→VK→Prop:=fun x H Q=>∃ i,x=.int i∧Q (g i) H
section
variable {X:Cx} {a b c:Expr} {ta tb tc:TE} {pos:Pos}
theorem binT (ha:PE X a ta) (hb:PE X b tb) {pins:List (Addr × Obj)} {s:Shared} {σ:St} {H:Hp} {R:V→V→Hp→Prop} (I:Inv X pins σ H s)
  (h:ta σ H fun x H1=>tb σ H1 fun y H2=>R x y H2) {Q:Value→Shared→Prop} {f:Value→Value→Sem Value}
  (hf:∀ v u s2 x y H2,Inv X pins σ H2 s2→RelV x v→RelV y u→R x y H2→wpAny (model X.prog X.w) X.A (f v u) Q X.xe s2) :
  wpAny (model X.prog X.w) X.A (eval a X.env) (fun v s₁=>wpAny (model X.prog X.w) X.A (eval b X.env) (fun u s₂=>wpAny (model X.prog X.w) X.A (f v u) Q X.xe s₂) X.xe s₁) X.xe s:=by
 refine thn (ha pins s σ H _ I h) fun v s1 ⟨x,H1,I1,r1,q1⟩=>?_
 refine thn (hb pins s1 σ H1 _ I1 q1) fun u s2 ⟨y,H2,I2,r2,q2⟩=>?_
 exact hf v u s2 x y H2 I2 r1 r2 q2
theorem az {op:Operator} {r:R2} (ho:OpR X (binaryOp op) r) (ha:PE X a ta) (hb:PE X b tb) : PE X (.BinOp a op b pos) (tOp r ta tb):=by
 intro pins s σ H Q I h
 exact wpAny_BinOp (binT ha hb I h fun v u s2 x y H2 I2 rx ry q=>ho pins s2 σ H2 x y v u Q I2 rx ry q)
theorem iM {op:UnaryOp} {r:V→Hp→VK→Prop} (ho:UnR X (unaryOp op) r) (ha:PE X a ta) : PE X (.UnaryOp op a pos) (tUn r ta):=by
 intro pins s σ H Q I h
 exact UnaryOp_ (thn (ha pins s σ H _ I h) fun v s1 ⟨x,H1,I1,r1,q1⟩=>ho pins s1 σ H1 x v Q I1 r1 q1)
theorem opI {f:Value→Value→Sem Value} {C:Int→Int→Prop} {g:Int→Int→Int}
  (rule:∀ (i j:Int) (t u:Tok) (s:Shared) (Q:Value→Shared→Prop) (E:Value→Shared→Prop),C i j→Q (.int (g i j) s.toks) { s with toks:=s.toks+1 }→wpAny (model X.prog X.w) X.A (f (.int i t) (.int j u)) Q E s) :
  OpR X f (rI C fun i j=>.int (g i j)):=by
 intro pins s σ H x y v u Q I rx ry h
 obtain ⟨i,j,rfl,rfl,hc,q⟩:=h
 obtain ⟨t,rfl⟩:=rx
 obtain ⟨t',rfl⟩:=ry
 exact rule i j t t' s _ _ hc ⟨.int (g i j),H,I.tok _,⟨_,rfl⟩,q⟩
theorem opI0 {f:Value→Value→Sem Value} {g:Int→Int→Int}
  (rule:∀ (i j:Int) (t u:Tok) (s:Shared) (Q:Value→Shared→Prop) (E:Value→Shared→Prop),Q (.int (g i j) s.toks) { s with toks:=s.toks+1 }→wpAny (model X.prog X.w) X.A (f (.int i t) (.int j u)) Q E s) :
  OpR X f (rI0 fun i j=>.int (g i j)):=by
 intro pins s σ H x y v u Q I rx ry h
 obtain ⟨i,j,rfl,rfl,q⟩:=h
 obtain ⟨t,rfl⟩:=rx
 obtain ⟨t',rfl⟩:=ry
 exact rule i j t t' s _ _ ⟨.int (g i j),H,I.tok _,⟨_,rfl⟩,q⟩
theorem opB0 {f:Value→Value→Sem Value} {g:Int→Int→Bool}
  (rule:∀ (i j:Int) (t u:Tok) (s:Shared) (Q:Value→Shared→Prop) (E:Value→Shared→Prop),Q (.bool (g i j)) s→wpAny (model X.prog X.w) X.A (f (.int i t) (.int j u)) Q E s) :
  OpR X f (rI0 fun i j=>.bl (g i j)):=by
 intro pins s σ H x y v u Q I rx ry h
 obtain ⟨i,j,rfl,rfl,q⟩:=h
 obtain ⟨t,rfl⟩:=rx
 obtain ⟨t',rfl⟩:=ry
 exact rule i j t t' s _ _ ⟨.bl (g i j),H,I,rfl,q⟩
def CDiv (i j:Int) : Prop:=0<j∧j<1073741824
def Ar (i j:Int) : Prop:=0≤j∧j≤1000000∧i.natAbs<2 ^ 64
def CMul (i j:Int) : Prop:=(-(2 ^ 64)<i∧i<2 ^ 64)∨(-(2 ^ 64)<j∧j<2 ^ 64)
theorem CMul.ok {i j:Int} (h:CMul i j) : IntMulOk i j:=by
 rcases h with ⟨h1,h2⟩ | ⟨h1,h2⟩
 ·exact .of_left (intBits_le_64 h1 h2)
 ·exact .of_right (intBits_le_64 h1 h2)
theorem bh:OpR X (binaryOp .Add) (rI0 fun i j=>.int (i+j)):=opI0 fun _ _ _ _ _ _ _ q=>add_int q
theorem cC:OpR X (binaryOp .Sub) (rI0 fun i j=>.int (i-j)):=opI0 fun _ _ _ _ _ _ _ q=>sub_int q
theorem kP:OpR X (binaryOp .Mult) (rI CMul fun i j=>.int (i*j)):=opI fun _ _ _ _ _ _ _ hc q=>mul_int q hc.ok
theorem eB:OpR X (binaryOp .FloorDiv) (rI CDiv fun i j=>.int (i / j)):=opI fun i j _ _ _ _ _ hc q=>by
 have h1:(0:Int)<j:=hc.1
 have h2:j<1073741824:=hc.2
 exact floordiv_int (by omega) (by rw [Int.fdiv_eq_ediv_of_nonneg i (by omega)];exact q) (.inl (PyProof.noPylong_small (by omega)))
theorem aP:OpR X (binaryOp .Mod) (rI (fun _ j=>0<j) fun i j=>.int (i % j)):=opI fun i j _ _ _ _ _ hc q=>by
 have h1:(0:Int)<j:=hc
 exact mod_int' (by omega) (by rw [Int.fmod_eq_emod_of_nonneg i (by omega)];exact q)
theorem b7:OpR X (binaryOp .Pow) (rI Ar fun i j=>.int (i ^ j.toNat)):=opI fun _ _ _ _ _ _ _ hc q=>pow_int_small hc.1 hc.2.1 hc.2.2 q
theorem unI {f:Value→Sem Value} {g:Int→Int}
  (rule:∀ (i:Int) (t:Tok) (s:Shared) (Q:Value→Shared→Prop) (E:Value→Shared→Prop),Q (.int (g i) s.toks) { s with toks:=s.toks+1 }→wpAny (model X.prog X.w) X.A (f (.int i t)) Q E s) :
  UnR X f (rU fun i=>.int (g i)):=by
 intro pins s σ H x v Q I rx h
 obtain ⟨i,rfl,q⟩:=h
 obtain ⟨t,rfl⟩:=rx
 exact rule i t s _ _ ⟨.int (g i),H,I.tok _,⟨_,rfl⟩,q⟩
theorem fC:UnR X (unaryOp .USub) (rU fun i=>.int (-i)):=unI fun _ _ _ _ _ q=>neg_int q
end
def scal:V→V→Bool
 | .non,.non=>true | .non,.int _=>true | .int _,.non=>true | .non,.bl _=>true | .bl _,.non=>true | .non,.str _=>true | .str _,.non=>true
 | .int _,.int _=>true | .bl _,.bl _=>true | .str _,.str _=>true | .byt _,.byt _=>true
 | .int _,.str _=>true | .str _,.int _=>true | .bl _,.str _=>true | .str _,.bl _=>true
 | _,_=>false
def rEq:R2:=fun x y H Q=>scal x y=true∧Q (.bl (decide (x=y))) H
def rNe:R2:=fun x y H Q=>scal x y=true∧Q (.bl (!decide (x=y))) H
theorem n9 {i j:Int} : decide (V.int i=V.int j)=(i==j):=by
 rw [Bool.eq_iff_iff]
 simp
theorem qB {i j:Bool} : decide (V.bl i=V.bl j)=(i==j):=by
 rw [Bool.eq_iff_iff]
 simp
theorem oa {i j:Str} : decide (V.str i=V.str j)=(i==j):=by
 rw [Bool.eq_iff_iff]
 simp
theorem og {i j:Array UInt8} : decide (V.byt i=V.byt j)=(i.toList==j.toList):=by
 rw [Bool.eq_iff_iff]
 cases i
 cases j
 simp
section
variable {X:Cx} {a b c:Expr} {ta tb tc:TE} {pos:Pos}
theorem bq {pins:List (Addr × Obj)} {σ:St} {H:Hp} {s:Shared} {Q:VK} {k k':Bool} (I:Inv X pins σ H s) (q:Q (.bl k) H) (e:k=k') : EP X pins σ Q (.bool k') s:=by
 subst e
 exact ⟨.bl k,H,I,rfl,q⟩
theorem bb:OpR X (compareOp .Eq) rEq:=by
 intro pins s σ H x y v u Q I rx ry h
 obtain ⟨hs,q⟩:=h
 cases x with
 | non =>
  cases rx
  cases y with
  | non=>cases ry;exact PySem.EqNone.eq_none_none (bq I q (by simp))
  | bl j=>cases ry;exact PySem.EqNone.eq_none_bool (bq I q (by simp))
  | int j=>obtain ⟨t',rfl⟩:=ry;exact PySem.EqNone.eq_none_int (bq I q (by simp))
  | str j=>obtain ⟨t',rfl⟩:=ry;exact PySem.EqNone.eq_none_str (bq I q (by simp))
  | _=>exact absurd (show false=true from hs) Jn
 | bl i =>
  cases rx
  cases y with
  | non=>cases ry;exact PySem.EqNone.eq_bool_none (bq I q (by simp))
  | bl j=>cases ry;exact eq_bool (bq I q qB)
  | str j=>obtain ⟨t',rfl⟩:=ry;exact PySem.EqMixed.eq_bool_str (bq I q (by simp))
  | _=>exact absurd (show false=true from hs) Jn
 | int i =>
  obtain ⟨t,rfl⟩:=rx
  cases y with
  | non=>cases ry;exact PySem.EqNone.eq_int_none (bq I q (by simp))
  | int j=>obtain ⟨t',rfl⟩:=ry;exact eq_int (bq I q n9)
  | str j=>obtain ⟨t',rfl⟩:=ry;exact PySem.EqMixed.eq_int_str (bq I q (by simp))
  | _=>exact absurd (show false=true from hs) Jn
 | str i =>
  obtain ⟨t,rfl⟩:=rx
  cases y with
  | non=>cases ry;exact PySem.EqNone.eq_str_none (bq I q (by simp))
  | bl j=>cases ry;exact PySem.EqMixed.eq_str_bool (bq I q (by simp))
  | int j=>obtain ⟨t',rfl⟩:=ry;exact PySem.EqMixed.eq_str_int (bq I q (by simp))
  | str j=>obtain ⟨t',rfl⟩:=ry;exact eq_str (bq I q oa)
  | _=>exact absurd (show false=true from hs) Jn
 | byt i =>
  obtain ⟨t,rfl⟩:=rx
  cases y with
  | byt j=>obtain ⟨t',rfl⟩:=ry;exact PySem.W.eq_bytes (bq I q og)
  | _=>exact absurd (show false=true from hs) Jn
 | _=>cases y <;> exact absurd (show false=true from hs) Jn
theorem fD:OpR X (compareOp .NotEq) rNe:=by
 intro pins s σ H x y v u Q I rx ry h
 obtain ⟨hs,q⟩:=h
 cases x with
 | non =>
  cases rx
  cases y with
  | non=>cases ry;exact PySem.EqNone.ne_none_none (bq I q (by simp))
  | bl j=>cases ry;exact PySem.EqNone.ne_none_bool (bq I q (by simp))
  | int j=>obtain ⟨t',rfl⟩:=ry;exact PySem.EqNone.ne_none_int (bq I q (by simp))
  | str j=>obtain ⟨t',rfl⟩:=ry;exact PySem.EqNone.ne_none_str (bq I q (by simp))
  | _=>exact absurd (show false=true from hs) Jn
 | bl i =>
  cases rx
  cases y with
  | non=>cases ry;exact PySem.EqNone.ne_bool_none (bq I q (by simp))
  | bl j=>cases ry;exact ne_bool (bq I q (congrArg not qB))
  | str j=>obtain ⟨t',rfl⟩:=ry;exact PySem.EqMixed.ne_bool_str (bq I q (by simp))
  | _=>exact absurd (show false=true from hs) Jn
 | int i =>
  obtain ⟨t,rfl⟩:=rx
  cases y with
  | non=>cases ry;exact PySem.EqNone.ne_int_none (bq I q (by simp))
  | int j=>obtain ⟨t',rfl⟩:=ry;exact ne_int (bq I q (congrArg not n9))
  | str j=>obtain ⟨t',rfl⟩:=ry;exact PySem.EqMixed.ne_int_str (bq I q (by simp))
  | _=>exact absurd (show false=true from hs) Jn
 | str i =>
  obtain ⟨t,rfl⟩:=rx
  cases y with
  | non=>cases ry;exact PySem.EqNone.ne_str_none (bq I q (by simp))
  | bl j=>cases ry;exact PySem.EqMixed.ne_str_bool (bq I q (by simp))
  | int j=>obtain ⟨t',rfl⟩:=ry;exact PySem.EqMixed.ne_str_int (bq I q (by simp))
  | str j=>obtain ⟨t',rfl⟩:=ry;exact ne_str (bq I q (congrArg not oa))
  | _=>exact absurd (show false=true from hs) Jn
 | byt i =>
  obtain ⟨t,rfl⟩:=rx
  cases y with
  | byt j=>obtain ⟨t',rfl⟩:=ry;exact PySem.W.ne_bytes (bq I q (congrArg not og))
  | _=>exact absurd (show false=true from hs) Jn
 | _=>cases y <;> exact absurd (show false=true from hs) Jn
theorem cP:OpR X (compareOp .Lt) (rI0 fun i j=>.bl (decide (i<j))):=opB0 fun _ _ _ _ _ _ _ q=>lt_int q
theorem lZ:OpR X (compareOp .LtE) (rI0 fun i j=>.bl (decide (i≤j))):=opB0 fun _ _ _ _ _ _ _ q=>le_int q
theorem fW:OpR X (compareOp .Gt) (rI0 fun i j=>.bl (decide (j<i))):=opB0 fun _ _ _ _ _ _ _ q=>gt_int q
theorem gH:OpR X (compareOp .GtE) (rI0 fun i j=>.bl (decide (j≤i))):=opB0 fun _ _ _ _ _ _ _ q=>ge_int q
theorem vk:OpR X (compareOp .Is) (fun x y H Q=>y=.non∧Q (.bl (decide (x=.non))) H):=by
 intro pins s σ H x y v u Q I rx ry h
 obtain ⟨rfl,q⟩:=h
 cases ry
 refine is_none_gen (bq I q ?_)
 cases x <;> first
  | (cases rx;rfl)
  | (obtain ⟨t,rfl⟩:=rx;rfl)
theorem oh:OpR X (compareOp .IsNot) (fun x y H Q=>y=.non∧Q (.bl (!decide (x=.non))) H):=by
 intro pins s σ H x y v u Q I rx ry h
 obtain ⟨rfl,q⟩:=h
 cases ry
 refine isnot_none_gen (bq I q ?_)
 cases x <;> first
  | (cases rx;rfl)
  | (obtain ⟨t,rfl⟩:=rx;rfl)
theorem wa (b:Expr) {op:CmpOp} (h:op≠.In:=by decide) (h2:op≠.NotIn:=by decide) : behindInMarks op b=false:=by
 have e1:(op==CmpOp.In)=false:=by cases op <;> first | rfl | exact absurd rfl h
 have e2:(op==CmpOp.NotIn)=false:=by cases op <;> first | rfl | exact absurd rfl h2
 cases b <;> simp [behindInMarks,e1,e2]
theorem eY {op:CmpOp} {r:R2} (ho:OpR X (compareOp op) r) (ha:PE X a ta) (hb:PE X b tb) (hm:behindInMarks op b=false) : PE X (.Compare a [op] [b] pos) (tOp r ta tb):=by
 intro pins s σ H Q I h
 exact wpAny_Compare1 (binT ha hb I h fun v u s2 x y H2 I2 rx ry q=>ho pins s2 σ H2 x y v u Q I2 rx ry q) hm
def tTest (t:TE) : TT:=fun σ H Q=>t σ H fun x H'=>∃ k,x=.bl k∧Q k H'
theorem au {op:CmpOp} {r:R2} (ho:OpR X (compareOp op) r) (ha:PE X a ta) (hb:PE X b tb) (hm:behindInMarks op b=false) : PT X (.Compare a [op] [b] pos) (tTest (tOp r ta tb)):=by
 intro pins s σ H Q I h
 refine wpAny_isTrue_Compare1 (thn (ha pins s σ H _ I h) fun v s1 ⟨x,H1,I1,r1,q1⟩=>thn (hb pins s1 σ H1 _ I1 q1) fun u s2 ⟨y,H2,I2,r2,q2⟩ =>
  thn (ho pins s2 σ H2 x y v u _ I2 r1 r2 q2) fun c s3 ⟨z,H3,I3,r3,k,e,q3⟩=>?_) hm
 subst e
 cases r3
 exact wpAny_truthy_bool ⟨H3,I3,q3⟩
theorem yz:(sizeLine:Nat)<2 ^ 63:=by rw [sizeLine_eq];decide
theorem jh:OpR X (binaryOp .Add) (fun x y H Q=>∃ i j,x=.str i∧y=.str j∧i.length+j.length≤sizeLine∧Q (.str (i++j)) H):=by
 intro pins s σ H x y v u Q I rx ry h
 obtain ⟨i,j,rfl,rfl,hz,q⟩:=h
 obtain ⟨t,rfl⟩:=rx
 obtain ⟨t',rfl⟩:=ry
 exact add_str (fun t' tk=>⟨.str (i++j),H,I.tok _,⟨_,rfl⟩,q⟩) hz
theorem vals1 {x:V} {us:List Value} (r:Vals [x] us) : ∃ u,us=[u]∧RelV x u:=by
 cases r with
 | cons r1 r2=>cases r2;exact ⟨_,rfl,r1⟩
theorem vals2 {x y:V} {us:List Value} (r:Vals [x,y] us) : ∃ u w',us=[u,w']∧RelV x u∧RelV y w':=by
 cases r with
 | cons r1 r2 =>
  cases r2 with
  | cons r3 r4=>cases r4;exact ⟨_,_,rfl,r1,r3⟩
theorem oU (hc:X.calm=true) : xU X (.builtin "min") (fun xs H Q=>∃ i j,xs=[.int i,.int j]∧Q (.int (if j<i then j else i)) H):=by
 intro pins s σ H xs us Q I r h
 obtain ⟨i,j,rfl,q⟩:=h
 obtain ⟨u,w',rfl,⟨t,rfl⟩,⟨t',rfl⟩⟩:=vals2 r
 refine min_two_ints (I.ok.hd hc) fun h' tk k=>⟨_,H,I.kept k,?_,q⟩
 by_cases hj:j<i
 ·rw [J3 hj,J3 hj];exact ⟨_,rfl⟩
 ·rw [J0 hj,J0 hj];exact ⟨_,rfl⟩
theorem eP:xU X (.type "int") (fun xs H Q=>(∃ i,xs=[.int i]∧Q (.int i) H)∨∃ k,xs=[.bl k]∧Q (.int (if k then 1 else 0)) H):=by
 intro pins s σ H xs us Q I r h
 rcases h with ⟨i,rfl,q⟩ | ⟨k,rfl,q⟩
 ·obtain ⟨u,rfl,t,rfl⟩:=vals1 r
  exact call_int_int ⟨.int i,H,I,⟨_,rfl⟩,q⟩
 ·obtain ⟨u,rfl,r1⟩:=vals1 r
  cases r1
  exact call_int_bool ⟨.int (if k then 1 else 0),H,I.tok _,⟨_,rfl⟩,q⟩
end
end L2
namespace L2
open PySem PySem.Spec PyProof.Rows
structure zM (h:Heap) (x dx C:Addr) (mA:Str→Option Value) : Prop where
 obj:h.get? x=some (PySem.W.instObj C dx)
 ns:h.Ns1 dx mA
 ne:dx≠x
theorem oV {h:Heap} {dx:Addr} {mA:Str→Option Value} (n:h.Ns1 dx mA) : ∃ od,h.get? dx=some od∧∀ name,PySem.W.lookIn name od=some (mA name):=by
 obtain ⟨o,es,ep,ho,hd,hk,_,hm⟩:=n
 refine ⟨o,ho,fun name=>?_⟩
 have e:=hm name
 unfold nsFind findBy at e
 rw [← Array.find?_toList] at e
 unfold PySem.W.lookIn
 rw [hd]
 dsimp only
 split
 ·rename_i y q
  rw [q] at e
  exact congrArg some e
 ·rename_i q
  rw [q] at e
  have a:es.toList.any (·.refKey)=false:=by
   rw [List.any_eq_false]
   intro y hy
   obtain ⟨z,t,hkey⟩:=hk y (Array.mem_toList_iff.mp hy)
   simp [DictEntry.refKey,hkey]
  have a':¬ es.toList.any (·.refKey)=true:=by rw [a];exact Jn
  rw [J0 a']
  exact congrArg some e
theorem zM.look {h:Heap} {x dx C:Addr} {mA:Str→Option Value} (I:zM h x dx C mA) : ∃ od,PySem.W.InstAt h x (PySem.W.instObj C dx) C (some od)∧∀ name,PySem.W.lookIn name od=some (mA name) :=
 let ⟨od,ho,hl⟩:=oV I.ns
 ⟨od,⟨I.obj,rfl,rfl,ho⟩,hl⟩
section
variable {prog:Program} {w:World} {A:Around} {E:Value→Shared→Prop} {s:Shared} {K:Ay} {x dx C f:Addr} {mA:Str→Option Value} {name:Str} {v:Value}
theorem get_map {expr:Bool} {Q:Value→Shared→Prop} (X:K.In s.heap) (I:zM s.heap x dx C mA) (hg:PySem.W.plainGet K C name=true) (hh:PySem.W.hasDictIn K C=true)
  (ha:PySem.W.findIn K (.ref C) name=some none) (hv:mA name=some v) (hv':PySem.W.handedIn v=true) (h:Q v { s with toks:=s.toks+1 }) :
  wpAny (model prog w) A (getAttr (.ref x) name expr) Q E s:=by
 obtain ⟨od,J,hl⟩:=I.look
 exact PySem.W.get_value X J (PySem.W.plainGet_of hg).1 (PySem.W.findObj_own hh ha rfl (by rw [hl,hv])) hv' h
theorem qC {pl:Sem Bool} {Q:Value × List Value→Shared→Prop} (X:K.In s.heap) (I:zM s.heap x dx C mA) (hg:PySem.W.plainGet K C name=true)
  (hf:PySem.W.findIn K (.ref C) name=some (some (.ref f))) (ht:PySem.W.isFn K (.ref f)=true) (hv:mA name=none) (h:Q (.ref f,[.ref x]) s) :
  wpAny (model prog w) A (getMethod (.ref x) name pl) Q E s:=by
 obtain ⟨od,J,hl⟩:=I.look
 exact PySem.W.method_fn X J (PySem.W.plainGet_of hg).1 (PySem.W.plainGet_of hg).2 hf (beq_iff_eq.mp ht) (by show (PySem.W.lookIn name od).map (·.isSome)=some false;rw [hl,hv];rfl) h
theorem ub {ns:List Str} {Q:Unit→Shared→Prop} (X:K.In s.heap) (I:zM s.heap x dx C mA)
  (hs:PySem.W.findIn K (.ref C) "__setattr__" = some (some (.builtin "object.__setattr__"))) (hp:PySem.W.plainOver K C=true) (ht:PySem.W.takerIn K C name=some none) (hh:PySem.W.hasDictIn K C=true)
  (hw:PySem.Within mA ns) (hsz:ns.length≤sizeLine)
  (h:∀ h',zM h' x dx C (fun y=>if y=name then some v else mA y)→Heap.SameBut dx s.heap h'→Q () { s with heap:=h',toks:=s.toks+2 }) :
  wpAny (model prog w) A (setAttr (.ref x) name v) Q E s:=by
 obtain ⟨od,J,hl⟩:=I.look
 refine PySem.W.set_plain X J hs (PySem.W.osa_open (s:={ s with toks:=s.toks+1 }) (r:=none) X J hp ht fun b=>?_)
 obtain ⟨cd,hc,hd'⟩:=PySem.W.any_some hh
 have hx:s.heap.get? x=some ⟨.ref C,some dx,.plain,#[]⟩:=I.obj
 refine Jf (Y0 (Jf (Jf (wpAny_loadPart hx (Jf (PySem.W.Looks.here (s:={ s with toks:=s.toks+1 }) (PySem.W.looks_clsIn X hc) ?_))))))
 rw [hd']
 refine Y0 (a:=some dx) (Jf (Y0 (Jf ?_)))
 refine wpAny_nsSet1 (s:={ s with toks:=s.toks+1 }) I.ns fun h' hn2 hs2=>?_
 obtain ⟨oD,esD,epD,hoD,hdD,hcD⟩:=hn2.count (PySem.Within.cons name v hw)
 refine Jf (wpAny_lookBehind hoD (by rw [hdD];exact pastItsLine_dict (Ju hcD (by rw [Jy];omega))) ?_)
 exact Y0 (h _ ⟨(hs2.2 _ (Ne.symm I.ne)).trans I.obj,hn2,I.ne⟩ hs2)
theorem qD {R:Result→Shared→Prop} {vs:List Value} {kw:List (Str × Value)} (X:K.In s.heap) (hm:PySem.W.makesIn K C=true)
  (hi:PySem.W.findIn K (.ref C) "__init__" = some (some (.ref f))) (hf:PySem.W.typeIn K (.ref f)=some (.type "function"))
  (h:codeAny (model prog w) (A.under (.builtin "type.__call__" ⟨.ref C::vs,kw⟩)) (.call (.ref f) ⟨.ref (s.heap.objs.size+1)::vs,kw⟩) (PySem.W.InitBack (s.heap.objs.size+1) R)
   { s with heap:=(s.heap.push PySem.W.emptyDict).push (PySem.W.instObj C s.heap.objs.size) }) :
  codeAny (model prog w) A (.call (.ref C) ⟨vs,kw⟩) R s:=by
 obtain ⟨hh,g,d,t,os⟩:=s
 exact PySem.W.make_core (PySem.W.makes_of X hm) (PySem.W.looks_findIn X hi) (fun self=>PySem.W.bind_fn X self hf) (.inl rfl) h
end
def wJ (f:Str) (v:V) : List (Str × V)→List (Str × V)
 | []=>[(f,v)]
 | (g,x)::r=>if g=f then (g,v)::r else (g,x)::wJ f v r
theorem iN (f g:Str) (v:V) : ∀ fs:List (Str × V),(wJ f v fs).lookup g=if g=f then some v else fs.lookup g
 | []=>by
  show List.lookup g [(f,v)]=_
  by_cases h:g=f
  ·have hb:(g==f)=true:=beq_iff_eq.mpr h
   simp only [List.lookup,hb,J3 h]
  ·have hb:(g==f)=false:=beq_eq_false_iff_ne.mpr h
   simp only [List.lookup,hb,J0 h]
 | (k,x)::r=>by
  have ih:=iN f g v r
  rw [show wJ f v ((k,x)::r)=(if k=f then (k,v)::r else (k,x)::wJ f v r) from rfl]
  by_cases hk:k=f
  ·rw [J3 hk]
   by_cases h:g=k
   ·have hb:(g==k)=true:=beq_iff_eq.mpr h
    simp only [List.lookup,hb,J3 (h.trans hk)]
   ·have hb:(g==k)=false:=beq_eq_false_iff_ne.mpr h
    simp only [List.lookup,hb,J0 (fun e:g=f=>h (e.trans hk.symm))]
  ·rw [J0 hk]
   by_cases h:g=k
   ·have hb:(g==k)=true:=beq_iff_eq.mpr h
    simp only [List.lookup,hb,J0 (fun e:g=f=>hk (h.symm.trans e))]
   ·have hb:(g==k)=false:=beq_eq_false_iff_ne.mpr h
    simp only [List.lookup,hb]
    exact ih
theorem iC (f:Str) (v:V) : ∀ fs:List (Str × V),f∈(wJ f v fs).map (·.1)∧∀ g,g∈fs.map (·.1)→g∈(wJ f v fs).map (·.1)
 | []=>⟨by simp [wJ],fun g h=>by simp at h⟩
 | (k,x)::r=>by
  obtain ⟨i1,i2⟩:=iC f v r
  rw [show wJ f v ((k,x)::r)=(if k=f then (k,v)::r else (k,x)::wJ f v r) from rfl]
  by_cases hk:k=f
  ·rw [J3 hk]
   subst hk
   exact ⟨by simp,fun g h=>by simpa using h⟩
  ·rw [J0 hk]
   refine ⟨?_,fun g h=>?_⟩
   ·rw [List.map_cons]
    exact Jd _ i1
   ·rw [List.map_cons] at h ⊢
    rcases List.mem_cons.mp h with e | e
    ·exact List.mem_cons.mpr (.inl e)
    ·exact Jd _ (i2 g e)
theorem iO (f:Str) (v:V) : ∀ fs:List (Str × V),(wJ f v fs).length≤fs.length+1
 | []=>by simp [wJ]
 | (k,x)::r=>by
  have ih:=iO f v r
  rw [show wJ f v ((k,x)::r)=(if k=f then (k,v)::r else (k,x)::wJ f v r) from rfl]
  by_cases hk:k=f
  ·rw [J3 hk,Jy,Jy];omega
  ·rw [J0 hk,Jy,Jy];omega
theorem xw.some_of {v:V} {o:Option Value} (r:xw (some v) o) : ∃ u,o=some u∧RelV v u:=by
 cases o with
 | none=>exact (show False from r).elim
 | some u=>exact ⟨u,rfl,r⟩
theorem xw.none_of {o:Option Value} (r:xw none o) : o=none:=by
 cases o with
 | none=>rfl
 | some u=>exact (show False from r).elim
theorem j4 {v:V} {u:Value} (r:RelV v u) : PySem.W.handedIn u=true:=by
 cases v with
 | non=>cases (show u=Value.none from r);rfl
 | bl b=>cases (show u=Value.bool b from r);rfl
 | int i=>obtain ⟨t,e⟩:=(show ∃ t,u=Value.int i t from r);cases e;rfl
 | str x=>obtain ⟨t,e⟩:=(show ∃ t,u=Value.str x t from r);cases e;rfl
 | byt b=>obtain ⟨t,e⟩:=(show ∃ t,u=Value.bytes b t from r);cases e;rfl
 | flt b=>obtain ⟨t,e⟩:=(show ∃ t,u=Value.float b t from r);cases e;rfl
 | ref a=>cases (show u=Value.ref a from r);rfl
 | ty n=>cases (show u=Value.type n from r);rfl
section
variable {P:Program} {w:World} {H H':Hp} {h h':Heap} {a C dx:Addr} {fs fs':List (Str × V)}
theorem gM (hok:HOk P w H h) (e:H a=some (.ins C dx fs)) : ∃ mA,zM h a dx C mA∧(∀ f,xw (fs.lookup f) (mA f))∧PySem.Within mA (fs.map (·.1))∧fs.length≤1000∧H dx=some (.own a):=by
 obtain ⟨d,z,ne,ob,mA,n,r,q⟩:=(show wD P w H h a (.ins C dx fs) from hok a _ e)
 exact ⟨mA,⟨ob,n,ne⟩,r,q,z,d⟩
end
structure Cls (K:Ay) (C:Addr) : Prop where
 pg:PySem.W.plainGet K C Str.empty=true
 hd:PySem.W.hasDictIn K C=true
 po:PySem.W.plainOver K C=true
 sa:PySem.W.findIn K (.ref C) "__setattr__" = some (some (.builtin "object.__setattr__"))
theorem Cls.get {K:Ay} {C:Addr} (c:Cls K C) (f:Str) : PySem.W.plainGet K C f=true:=c.pg
def wN (K:Ay) (C:Addr) (f:Str) : Prop:=PySem.W.findIn K (.ref C) f=some none
theorem wN.taker {K:Ay} {C:Addr} {f:Str} (n:wN K C f) : PySem.W.takerIn K C f=some none:=by
 unfold PySem.W.takerIn
 rw [show PySem.W.findIn K (.ref C) f=some none from n]
 rfl
structure Meth (K:Ay) (C:Addr) (m:Str) (f:Addr) : Prop where
 at_:PySem.W.findIn K (.ref C) m=some (some (.ref f))
 fn:PySem.W.isFn K (.ref f)=true
 kp:PySem.W.keepIn K (.ref f)=true
section
variable {X:Cx} {pins:List (Addr × Obj)} {σ:St} {H:Hp} {s:Shared} {a C dx:Addr} {fs:List (Str × V)} {f:Str} {v:V} {A:Around} {E:Value→Shared→Prop}
theorem mW {b:Bool} {Q:Value→Shared→Prop} (I:Inv X pins σ H s) (e:H a=some (.ins C dx fs)) (c:Cls X.K C) (n:wN X.K C f) (l:fs.lookup f=some v)
  (h:∀ u s',Inv X pins σ H s'→RelV v u→Q u s') : wpAny (model X.prog X.w) A (getAttr (.ref a) f b) Q E s:=by
 obtain ⟨mA,O,r,_,_,_⟩:=gM I.hok e
 obtain ⟨u,hu,ru⟩:=xw.some_of (v:=v) (o:=mA f) (by rw [← l];exact r f)
 exact get_map I.kIn O (c.get f) c.hd n hu (j4 ru) (h u _ (I.tok _) ru)
theorem gb {m:Str} {g:Addr} {pl:Sem Bool} {Q:Value × List Value→Shared→Prop} (I:Inv X pins σ H s) (e:H a=some (.ins C dx fs)) (c:Cls X.K C) (k:Meth X.K C m g) (l:fs.lookup m=none)
  (h:Q (.ref g,[.ref a]) s) : wpAny (model X.prog X.w) A (getMethod (.ref a) m pl) Q E s:=by
 obtain ⟨mA,O,r,_,_,_⟩:=gM I.hok e
 have hn:mA m=none:=xw.none_of (by rw [← l];exact r m)
 exact qC I.kIn O (c.get m) k.at_ k.fn hn h
theorem mX {y:V} {u:Value} {Q:Unit→Shared→Prop} (I:Inv X pins σ H s) (e:H a=some (.ins C dx fs)) (c:Cls X.K C) (n:wN X.K C f) (hl:fs.length<1000) (ry:RelV y u)
  (h:∀ s',Inv X pins σ (upd H a (.ins C dx (wJ f y fs))) s'→Q () s') : wpAny (model X.prog X.w) A (setAttr (.ref a) f u) Q E s:=by
 obtain ⟨mA,O,r,wi,_,ho⟩:=gM I.hok e
 have hz:(fs.map (·.1)).length≤sizeLine:=by rw [J9,sizeLine_eq];omega
 refine ub I.kIn O c.sa c.po n.taker c.hd wi hz fun h' O' sb=>h _ ?_
 have hd:∃ o,h'.get? dx=some o:=let ⟨o,_,_,e',_⟩:=O'.ns;⟨o,e'⟩
 refine I.write (x:=a) (e:=dx) (by rw [e];exact True.intro) (.inr ho) (fun b q hb z=>(sb.2 b hb).trans z) hd ?_
 refine ⟨by rw [ao O.ne];exact ho,?_,O.ne,O'.obj,_,O'.ns,fun g=>?_,fun g hg=>?_⟩
 ·have:=iO f y fs;omega
 ·show xw ((wJ f y fs).lookup g) (if g=f then some u else mA g)
  rw [iN]
  by_cases q:g=f
  ·rw [J3 q,J3 q];exact ry
  ·rw [J0 q,J0 q];exact r g
 ·by_cases q:g=f
  ·rw [q];exact (iC f y fs).1
  ·refine (iC f y fs).2 g (wi g fun z=>hg ?_)
   show (if g=f then some u else mA g)=none
   rw [J0 q];exact z
theorem Inv.made (I:Inv X pins σ H s) : Inv X pins σ (upd (upd H s.heap.objs.size (.own (s.heap.objs.size+1))) (s.heap.objs.size+1) (.ins C s.heap.objs.size []))
  { s with heap:=(s.heap.push PySem.W.emptyDict).push (PySem.W.instObj C s.heap.objs.size) }:=by
 have e1:(s.heap.push PySem.W.emptyDict).get? s.heap.objs.size=some PySem.W.emptyDict:=Heap.get?_push_size s.heap rfl
 have e2:((s.heap.push PySem.W.emptyDict).push (PySem.W.instObj C s.heap.objs.size)).get? (s.heap.objs.size+1)=some (PySem.W.instObj C s.heap.objs.size):=by
  have:=Heap.get?_push_size (s.heap.push PySem.W.emptyDict) (o:=PySem.W.instObj C s.heap.objs.size) rfl
  rwa [Heap.size_push] at this
 have e3:(s.heap.push PySem.W.emptyDict).Ns s.heap.objs.size (fun _=>none):=⟨PySem.W.emptyDict,#[],_,e1,rfl,(fun e he=>absurd he (by simp)),fun _=>rfl⟩
 have I1:=I.laid (a:=s.heap.objs.size) (o:=.own (s.heap.objs.size+1)) (h':=s.heap.push PySem.W.emptyDict) (t':=s.toks) (fun b u q=>Jh _ q) (Jm _) ⟨_,e1⟩
 refine I1.laid (a:=s.heap.objs.size+1) (o:=.ins C s.heap.objs.size []) (t':=s.toks) (fun b u q=>Jh _ q) (Nat.le_of_eq (Heap.size_push _ _)) ?_
 have ne:s.heap.objs.size≠s.heap.objs.size+1:=Nat.ne_of_lt (Nat.lt_succ_self _)
 refine ⟨by rw [ao ne,af],Nat.zero_le _,ne,e2,fun _=>none,(Heap.Ns1.of_empty e3).at fun o q=>Jh _ q,fun _=>True.intro,fun y hy=>absurd rfl hy⟩
theorem oi {prog:Program} {w:World} {env:Env} {e:Expr} {f:Str} {pos:Pos} {s:Shared} {Q:Value→Shared→Prop} (hb:attributeBase e f env (eval e env)=eval e env)
  (h:wpAny (model prog w) A (eval e env) (fun o s₁=>wpAny (model prog w) A (getAttr o f true) Q E s₁) E s) : wpAny (model prog w) A (eval (.Attribute e f pos) env) Q E s :=
 Attribute_any_ h (by rw [arm_eval_Attribute,hb])
end
def tFld (K:Ay) (ta:TE) (f:Str) : TE:=fun σ H Q=>ta σ H fun x H1=>∃ a C dx fs v,x=.ref a∧H1 a=some (.ins C dx fs)∧Cls K C∧wN K C f∧fs.lookup f=some v∧Q v H1
def sFld (K:Ay) (ta tv:TE) (f:Str) : TS:=fun D σ H=>tv σ H fun y H1=>ta σ H1 fun x H2=>∃ a C dx fs,x=.ref a∧H2 a=some (.ins C dx fs)∧Cls K C∧wN K C f∧fs.length<1000 ∧
 D.nx σ (upd H2 a (.ins C dx (wJ f y fs)))
section
variable {X:Cx} {o e value:Expr} {f:Str} {pos pos' tpos:Pos} {ta tv:TE}
theorem aL (he:PE X e ta) (hb:attributeBase e f X.env (eval e X.env)=eval e X.env) : PE X (.Attribute e f pos) (tFld X.K ta f):=by
 intro pins s σ H Q I h
 refine oi hb (thn (he pins s σ H _ I h) fun u s1 ⟨x,H1,I1,rx,a,C,dx,fs,v,ex,ea,c,n,l,q⟩=>?_)
 subst ex
 obtain rfl:u=Value.ref a:=rx
 exact mW I1 ea c n l fun u' s2 I2 ru=>⟨v,H1,I2,ru,q⟩
theorem bH (ha:PE X o ta) (hv:PE X value tv) (hs:swapsWith value (some (.Attribute o f pos')) pos.line X.env=pure false) : PS X (.Assign [.Attribute o f pos'] value pos) (sFld X.K ta tv f):=by
 intro pins s σ H D I h
 refine plainObj_wpAny_Assign_Attribute (thn (hv pins s σ H _ I h) fun u s1 ⟨y,H1,I1,ry,q⟩=>thn (ha pins s1 σ H1 _ I1 q) fun ov s2 ⟨x,H2,I2,rx,a,C,dx,fs,ex,ea,c,n,l,q2⟩=>?_) hs
 subst ex
 obtain rfl:ov=Value.ref a:=rx
 exact mX I2 ea c n l ry fun s3 I3=>⟨σ,_,I3,q2⟩
theorem uV {pl:Sem Bool} {m:Str} {apos:Pos} {args:List Expr} {pins:List (Addr × Obj)} {s:Shared} {σ:St} {H:Hp} {Q:Value→Shared→Prop} {te:TE} (he:PE X e te) (I:Inv X pins σ H s)
  (h:te σ H fun x H1=>∃ a C dx fs g,x=.ref a∧H1 a=some (.ins C dx fs)∧Cls X.K C∧Meth X.K C m g∧fs.lookup m=none ∧
   ∀ s1,Inv X pins σ H1 s1→wpAny (model X.prog X.w) X.A (callWith pos (.ref g) [.ref a] (backTo pos (starEach args X.env)) (backToKw pos (keywordEach [] X.env))) Q X.xe s1)
  (ht:eval (.Call (.Attribute e m apos) args [] pos) X.env=(do
   let ov ← eval e X.env
   standAt apos.atName
   let (f,first) ← holding [ov] (getMethod ov m pl)
   callWith pos f first (backTo pos (starEach args X.env)) (backToKw pos (keywordEach [] X.env)))) :
  wpAny (model X.prog X.w) X.A (eval (.Call (.Attribute e m apos) args [] pos) X.env) Q X.xe s:=by
 refine PySem.W.methodCall_KW (pl:=pl) (thn (he pins s σ H _ I h) fun u s1 ⟨x,H1,I1,rx,a,C,dx,fs,g,ex,ea,c,k,l,q⟩=>?_) ht
 subst ex
 obtain rfl:u=Value.ref a:=rx
 exact gb I1 ea c k l (q s1 I1)
end
section
variable {X:Cx} {pins:List (Addr × Obj)} {σ:St} {H:Hp} {s:Shared} {A:Around} {E:Value→Shared→Prop} {Q:Value→Shared→Prop} {c:Value} {b:Bool}
inductive xK (K:Ay) (H:Hp) : V→Value→Prop where
 | non:xK K H .non (.type "NoneType")
 | bl (x:Bool) : xK K H (.bl x) (.type "bool")
 | int (i:Int) : xK K H (.int i) (.type "int")
 | str (x:Str) : xK K H (.str x) (.type "str")
 | flt (x:UInt64) : xK K H (.flt x) (.type "float")
 | lst {a:Addr} {xs:List V} (e:H a=some (.lst xs)) : xK K H (.ref a) (.type "list")
 | frz {a:Addr} {o:Obj} {xs:List V} (e:H a=some (.frz o (.lst xs))) : xK K H (.ref a) (.type "list")
 | tup {a:Addr} {xs:List V} (e:H a=some (.tup xs)) : xK K H (.ref a) (.type "tuple")
 | dK {a:Addr} {kvs:List (Key × V)} (e:H a=some (.dK kvs)) : xK K H (.ref a) (.type "dict")
 | dT {a:Addr} {kvs:List (List Key × V)} (e:H a=some (.dT kvs)) : xK K H (.ref a) (.type "dict")
 | ins {a C dx:Addr} {fs:List (Str × V)} (e:H a=some (.ins C dx fs)) (cl:Cls K C) (ha:PySem.W.findIn K (.ref C) "__class__" = some (some (.builtin "object.__class__")))
   (hn:PySem.W.specialIn K (.builtin "object.__class__") "__get__" = some (some (.builtin "getset_descriptor.__get__"))) (htk:PySem.W.takesIn K (.builtin "object.__class__")=some true)
   (hm:PySem.W.mroIn K C (.type "object")=some true) : xK K H (.ref a) (.ref C)
theorem oW {x:V} {u t:Value} (I:Inv X pins σ H s) (rx:RelV x u) (ty:xK X.K H x t) (e:PySem.W.kitOne X.K t c=some b) (h:∀ tk,Q (.bool b) { s with toks:=tk }) :
  wpAny (model X.prog X.w) A (call (.builtin "isinstance") [u,c]) Q E s:=by
 cases ty with
 | non=>cases (show u=Value.none from rx);exact PySem.W.kia_one PySem.W.kitx_none I.kIn True.intro e (fun z=>nomatch z) h
 | bl y=>cases (show u=Value.bool y from rx);exact PySem.W.kia_one PySem.W.kitx_bool I.kIn True.intro e (fun z=>nomatch z) h
 | int i=>obtain ⟨t,q⟩:=(show ∃ t,u=Value.int i t from rx);cases q;exact PySem.W.kia_one PySem.W.kitx_int I.kIn True.intro e (fun z=>nomatch z) h
 | str y=>obtain ⟨t,q⟩:=(show ∃ t,u=Value.str y t from rx);cases q;exact PySem.W.kia_one PySem.W.kitx_str I.kIn True.intro e (fun z=>nomatch z) h
 | flt y=>obtain ⟨t,q⟩:=(show ∃ t,u=Value.float y t from rx);cases q;exact PySem.W.kia_one PySem.W.kitx_float I.kIn True.intro e (fun z=>nomatch z) h
 | @lst a xs ea =>
  cases (show u=Value.ref a from rx)
  obtain ⟨_,_,n,_,h1⟩:=(show wD X.prog X.w H s.heap a (.lst xs) from I.hok a _ ea)
  exact PySem.W.kia_one PySem.W.kitx_list I.kIn ⟨_,h1,rfl⟩ e (fun z=>nomatch z) h
 | @frz a ob xs ea =>
  cases (show u=Value.ref a from rx)
  obtain ⟨_,_,_,n,_,h1⟩:=(show wD X.prog X.w H s.heap a (.frz ob (.lst xs)) from I.hok a _ ea)
  exact PySem.W.kia_one PySem.W.kitx_list I.kIn ⟨_,h1,rfl⟩ e (fun z=>nomatch z) h
 | @tup a xs ea =>
  cases (show u=Value.ref a from rx)
  obtain ⟨_,_,_,p⟩:=(show wD X.prog X.w H s.heap a (.tup xs) from I.hok a _ ea)
  obtain ⟨o,h1,h2,_⟩:=p
  exact PySem.W.kia_one PySem.W.kitx_tuple I.kIn ⟨o,h1,h2⟩ e (fun z=>nomatch z) h
 | @dK a kvs ea =>
  cases (show u=Value.ref a from rx)
  obtain ⟨_,_,vs,_,p⟩:=(show wD X.prog X.w H s.heap a (.dK kvs) from I.hok a _ ea)
  obtain ⟨o,es,ep,h1,h2,_⟩:=p
  exact PySem.W.kia_one PySem.W.kitx_dict I.kIn ⟨o,h1,h2.1⟩ e (fun z=>nomatch z) h
 | @dT a kvs ea =>
  cases (show u=Value.ref a from rx)
  obtain ⟨_,_,xs,_,o,es,ep,h1,h2,_⟩:=(show wD X.prog X.w H s.heap a (.dT kvs) from I.hok a _ ea)
  exact PySem.W.kia_one PySem.W.kitx_dict I.kIn ⟨o,h1,h2.1⟩ e (fun z=>nomatch z) h
 | @ins a C dx fs ea cl ha hn htk hm =>
  cases (show u=Value.ref a from rx)
  obtain ⟨mA,O,_⟩:=gM I.hok ea
  obtain ⟨od,J,_⟩:=O.look
  exact PySem.W.kia_one (PySem.W.kitx_own (cl.get _) cl.hd ha hn htk hm) I.kIn J e (fun z=>nomatch z) h
end
end L2
namespace L2
open PySem PySem.Spec PyProof.Rows
structure wK (k:Nat) (A:Around) : Prop where
 hd:A.handled=none
 dp:A.depth+3*k+5<recursionLimit
 un:A.units+16*k+200<cLine
theorem wK.mono {j k:Nat} {A:Around} (r:wK k A) (h:j≤k) : wK j A:=⟨r.hd,by have:=r.dp;omega,by have:=r.un;omega⟩
theorem wK.mn {j k:Nat} {A:Around} (r:wK k A) (h:j≤k:=by decide) : wK j A:=r.mono h
theorem wK.deeper {k:Nat} {A:Around} (r:wK (k+1) A) (env:Env) : wK k (A.deeper env) :=
 ⟨r.hd,by have:=r.dp;show A.depth+1+3*k+5<_;omega,by have:=r.un;show A.units+3+16*k+200<_;omega⟩
theorem wK.in1 {k:Nat} {A:Around} (r:wK (k+1) A) : wK k A.in1 :=
 ⟨r.hd,by have:=r.dp;show A.depth+3*k+5<_;omega,by have:=r.un;show A.units+1+16*k+200<_;omega⟩
theorem mY {A:Around} {C:Addr} {us:List Value} {kw:List (Str × Value)} : (A.under (.builtin "type.__call__" ⟨.ref C::us,kw⟩)).depth=A.depth+1:=by
 first | rfl | simp [Around.under,Code.weight,Code.isCreation,Code.isGuard,Code.isCaller,Code.frames,Code.isFrame,guardIds]
theorem mZ {A:Around} {C:Addr} {us:List Value} {kw:List (Str × Value)} : (A.under (.builtin "type.__call__" ⟨.ref C::us,kw⟩)).units=A.units+1:=by
 first | rfl | simp [Around.under,Code.cUnits,Code.frames,Code.isFrame]
theorem wK.make {k:Nat} {A:Around} (r:wK (k+1) A) (C:Addr) (us:List Value) (kw:List (Str × Value)) : wK k (A.under (.builtin "type.__call__" ⟨.ref C::us,kw⟩)) :=
 ⟨r.hd,by have:=r.dp;rw [mY];omega,by have:=r.un;rw [mZ];omega⟩
theorem wK.depth {k:Nat} {A:Around} (r:wK k A) : A.depth<recursionLimit:=by have:=r.dp;omega
theorem wK.units {k:Nat} {A:Around} (r:wK k A) : A.units+64<cLine:=by have:=r.un;omega
theorem wK.yA {k:Nat} {A:Around} (r:wK k A) : A.units<cLine:=by have:=r.un;omega
def yP:TA:=fun _ H Q=>Q [] H
def xV (ta:TE) (tr:TA) : TA:=fun σ H Q=>ta σ H fun x H1=>tr σ H1 fun xs H2=>Q (x::xs) H2
section
variable {X:Cx} {e:Expr} {es:List Expr} {te:TE} {t:TA} {pos:Pos}
theorem aj:PA X [] yP:=fun _ _ _ _ H Q I h=>Calls.spliced_nil ⟨[],H,I,.nil,h⟩
theorem aa (ha:PE X e te) (hr:PA X es t) (hs:starEach (e::es) X.env=(false,eval e X.env)::starEach es X.env:=by rfl) : PA X (e::es) (xV te t):=by
 intro pos pins s σ H Q I h
 rw [hs]
 show wpAny _ _ (spliced ((false,eval e X.env)::backTo pos (starEach es X.env))) _ _ s
 refine Calls.spliced_cons (thn (ha pins s σ H _ I h) fun u s1 ⟨x,H1,I1,r1,q1⟩=>?_)
 exact thn (hr pos pins s1 σ H1 _ I1 q1) fun us s2 ⟨xs,H2,I2,r2,q2⟩=>⟨x::xs,H2,I2,.cons r1 r2,q2⟩
def tTup (t:TA) : TE:=fun σ H Q=>t σ H fun xs H1=>xs.length≤sizeLine∧∀ p,H1 p=none→Q (.ref p) (upd H1 p (.tup xs))
def tLst (t:TA) : TE:=fun σ H Q=>t σ H fun xs H1=>xs.length≤sizeLine∧∀ p,H1 p=none→Q (.ref p) (upd H1 p (.lst xs))
theorem bu {x1} (h:PA X es t) : PE X (.Tuple es x1 pos) (tTup t):=by
 intro pins s σ H Q I hq
 refine wpAny_Tuple_spliced (thn (h pos pins s σ H _ I hq) fun us s1 ⟨xs,H1,I1,r,z,q⟩=>⟨by rw [← r.length];exact z,?_⟩)
 have hf:H1 s1.heap.objs.size=none:=I1.hok.fresh (Jm _)
 refine ⟨.ref s1.heap.objs.size,upd H1 s1.heap.objs.size (.tup xs),I1.laid (t':=s1.toks) (fun b u e=>Jh _ e) (Jm _) ?_,rfl,q _ hf⟩
 exact ⟨z,us,r,⟨_,Heap.get?_push_size _ rfl,rfl,_,rfl⟩⟩
theorem a0 (h:PA X es t) : PE X (.List es pos) (tLst t):=by
 intro pins s σ H Q I hq
 refine wpAny_List_spliced (thn (h pos pins s σ H _ I hq) fun us s1 ⟨xs,H1,I1,r,z,q⟩=>⟨by rw [← r.length];exact z,?_⟩)
 have hf:H1 s1.heap.objs.size=none:=I1.hok.fresh (Jm _)
 refine ⟨.ref s1.heap.objs.size,upd H1 s1.heap.objs.size (.lst xs),I1.laid (t':=s1.toks) (fun b u e=>Jh _ e) (Jm _) ?_,rfl,q _ hf⟩
 exact ⟨z,us,0,r,Heap.get?_push_size _ rfl⟩
end
abbrev Sp:=List V→Hp→VK→XK→Prop
abbrev CXT:=List Env→Hp→Shared→XK→Value→Shared→Prop
structure zN (P:Program) (w:World) (K:Ay) (mg:Str→Option Value) (base:Heap) (A:Around) (outer:List Env) (s:Shared) (H:Hp) : Prop where
 frames:A.frames=some outer
 mod:Mod K mg base
 bs:∀ b o,base.get? b=some o→s.heap.get? b=some o∧H b=none
 bsz:base.objs.size≤s.heap.objs.size
 funs:s.heap.FunFrames base outer
 frf:∀ b∈frs outer,H b=none
 hok:HOk P w H s.heap
 bare:AllBare s.gens
def CE (outer:List Env) (P:Program) (w:World) (H:Hp) (s:Shared) (Q:VK) (u:Value) (s':Shared) : Prop :=
 ∃ v H',s'.os=s.os∧AllBare s'.gens∧Un (frs outer) [] H H' s.heap s'.heap∧HOk P w H' s'.heap∧RelV v u∧Q v H'
def CR (CX:CXT) (outer:List Env) (P:Program) (w:World) (H:Hp) (s:Shared) (Q:VK) (E:XK) (r:Result) (s':Shared) : Prop :=
 match r with
 | .ok (.ret u)=>CE outer P w H s Q u s'
 | .ok _=>False
 | .error e=>CX outer H s E e s'
structure we (P:Program) (w:World) (K:Ay) (mg:Str→Option Value) (base:Heap) (CX:CXT) (k:Nat) (f:Addr) (fd:FuncData) (ps:List Str) (sp:Sp) : Prop where
 len:∀ vs H Q E,sp vs H Q E→vs.length=ps.length
 run:∀ (A:Around) (outer:List Env) (s:Shared) (H:Hp) (args:Args) (us:List Value) (vs:List V) (Q:VK) (E:XK),wK k A→zN P w K mg base A outer s H→BindsTo s fd args (ps.zip us)→Vals vs us→sp vs H Q E →
  codeAny (model P w) A (.call (.ref f) args) (CR CX outer P w H s Q E) s
theorem zN.make {P:Program} {w:World} {K:Ay} {mg:Str→Option Value} {base:Heap} {A:Around} {outer:List Env} {s:Shared} {H:Hp} (e:zN P w K mg base A outer s H) (C:Addr) (us:List Value) (kw:List (Str × Value)) :
  zN P w K mg base (A.under (.builtin "type.__call__" ⟨.ref C::us,kw⟩)) outer s H:=⟨by first | exact e.frames | (simpa [Around.under,Code.envs,Code.isFrame,pushEnvs] using e.frames),e.mod,e.bs,e.bsz,e.funs,e.frf,e.hok,e.bare⟩
section
variable {X:Cx} {pins:List (Addr × Obj)} {σ:St} {H:Hp} {s s':Shared}
theorem Inv.env0 (I:Inv X pins σ H s) : zN X.prog X.w X.K X.mg X.base X.A X.stack s H :=
 ⟨I.ok.frames,I.ok.mod,I.bs,Ju I.ok.bsz I.sz,I.stack,I.yr,I.hok,I.bare⟩
theorem Inv.after {Q:VK} {u:Value} (I:Inv X pins σ H s) (h:CE X.stack X.prog X.w H s Q u s') : EP X pins σ Q u s':=by
 obtain ⟨v,H',os,bare,un,hok,r,q⟩:=h
 obtain ⟨hh,g,d,t,os'⟩:=s'
 obtain rfl:os'=s.os:=os
 exact ⟨v,H',I.call (h':=hh) (g':=g) (d':=d) (t':=t) (ch:=[]) un hok bare (fun b z=>absurd z (by simp)),r,q⟩
end
def Ad (sp:Sp) (dvs:List V) (E:XK) (t:TA) : TE:=fun σ H Q=>t σ H fun vs H1=>sp (vs++dvs) H1 Q E
def yS (C:Addr) (m:Str) (sp:Sp) (dvs:List V) (E:XK) (ta:TE) (t:TA) : TE:=fun σ H Q=>ta σ H fun x H1=>∃ a dx fs,x=.ref a∧H1 a=some (.ins C dx fs)∧fs.lookup m=none ∧
 t σ H1 fun vs H2=>sp (x::(vs++dvs)) H2 Q E
def tMake (C:Addr) (sp:Sp) (dvs:List V) (E:XK) (t:TA) : TE:=fun σ H Q=>t σ H fun vs H1=>∀ x dx,H1 x=none→H1 dx=none→dx≠x →
 sp (.ref x::(vs++dvs)) (upd (upd H1 dx (.own x)) x (.ins C dx [])) (fun v H2=>v=.non∧Q (.ref x) H2) E
def Binds (K:Ay) (fd:FuncData) (ps:List Str) (ds:List Value) : Prop :=
 ∀ (s:Shared) (us:List Value),K.In s.heap→(us++ds).length=ps.length→BindsTo s fd ⟨us,[]⟩ (ps.zip (us++ds))
theorem Binds.all {K:Ay} {fd:FuncData} {ps:List Str} (h:∀ us:List Value,us.length=ps.length→bindArgs fd ⟨us,[]⟩=pure (ps.zip us)) : Binds K fd ps []:=fun s us _ hl=>by
 rw [List.append_nil] at hl ⊢
 exact .of_eq (h us hl)
def Passes (CX:CXT) (X:Cx) (E:XK) : Prop:=∀ (pins:List (Addr × Obj)) (σ:St) (H:Hp) (s:Shared) (e:Value) (s':Shared),Inv X pins σ H s→CX X.stack H s E e s'→X.xe e s'
section
variable {X:Cx} {CX:CXT} {k:Nat} {f C:Addr} {fd:FuncData} {ps:List Str} {sp:Sp} {dvs:List V} {ds:List Value} {E:XK} {x m:Str} {p pos apos:Pos} {e o:Expr} {es:List Expr} {ta:TE} {t:TA}
theorem kQ {pins:List (Addr × Obj)} {σ:St} {H:Hp} {s:Shared} {Q:VK} {us:List Value} {vs:List V} (F:we X.prog X.w X.K X.mg X.base CX k f fd ps sp) (hr:wK k X.A) (hb:Binds X.K fd ps ds) (hd:Vals dvs ds) (hx:Passes CX X E)
  (I:Inv X pins σ H s) (r:Vals vs us) (h:sp (vs++dvs) H Q E) : wpAny (model X.prog X.w) X.A (call (.ref f) us) (EP X pins σ Q) X.xe s:=by
 have r2:Vals (vs++dvs) (us++ds):=r.append hd
 have hl:(us++ds).length=ps.length:=by rw [← r2.length];exact F.len _ _ _ _ h
 refine wpAny_call (codeAny_mono (F.run X.A X.stack s H ⟨us,[]⟩ (us++ds) (vs++dvs) Q E hr I.env0 (hb s us I.kIn hl) r2 h) fun r s' hq=>?_)
 cases r with
 | error e=>exact hx pins σ H s e s' I hq
 | ok fl =>
  cases fl with
  | ret u=>exact I.after hq
  | next=>exact False.elim hq
  | brk=>exact False.elim hq
  | cont=>exact False.elim hq
theorem aV (F:we X.prog X.w X.K X.mg X.base CX k f fd ps sp) (hr:wK k X.A) (hg:Gl X x) (hm:X.mg x=some (.ref f)) (hk:PySem.W.keepIn X.K (.ref f)=true) (hb:Binds X.K fd ps ds) (hd:Vals dvs ds) (hx:Passes CX X E)
  (ha:PA X (e::es) t) (hdb:(x==("__debug__" : Str))=false:=by decide) (he:starEach (e::es) X.env=(false,eval e X.env)::starEach es X.env:=by rfl) (hpl:(backTo pos (starEach es X.env)).any (·.1)=false:=by rfl) :
  PE X (.Call (.Name x p) (e::es) [] pos) (Ad sp dvs E t):=by
 intro pins s σ H Q I h
 refine wpAny_Call_Name_kw (fQ I hg hm ?_ hdb)
 refine PySem.W.callWith_K (h₀:=X.base) I.ok.mod.kin hk (thn (ha pos pins s σ H _ I h) fun us s1 ⟨vs,H1,I1,r,q⟩=>⟨I1.kIn,?_⟩) he hpl
 exact kQ F hr hb hd hx I1 r q
theorem uc {pl:Sem Bool} (he:PE X o ta) (c:Cls X.K C) (hm:Meth X.K C m f) (F:we X.prog X.w X.K X.mg X.base CX k f fd ps sp) (hr:wK k X.A) (hb:Binds X.K fd ps ds) (hd:Vals dvs ds) (hx:Passes CX X E) (ha:PA X (e::es) t)
  (hst:starEach (e::es) X.env=(false,eval e X.env)::starEach es X.env:=by rfl) (hpl:(backTo pos (starEach es X.env)).any (·.1)=false:=by rfl)
  (ht:eval (.Call (.Attribute o m apos) (e::es) [] pos) X.env=(do
   let ov ← eval o X.env
   standAt apos.atName
   let (f,first) ← holding [ov] (getMethod ov m pl)
   callWith pos f first (backTo pos (starEach (e::es) X.env)) (backToKw pos (keywordEach [] X.env))):=by rfl) :
  PE X (.Call (.Attribute o m apos) (e::es) [] pos) (yS C m sp dvs E ta t):=by
 intro pins s σ H Q I h
 refine PySem.W.methodCall_KW (pl:=pl) (thn (he pins s σ H _ I h) fun u s1 ⟨x,H1,I1,rx,a,dx,fs,ex,ea,l,q⟩=>?_) ht
 subst ex
 obtain rfl:u=Value.ref a:=rx
 refine gb I1 ea c hm l ?_
 refine PySem.W.callWith_K (first:=[.ref a]) (h₀:=X.base) I.ok.mod.kin hm.kp (thn (ha pos pins s1 σ H1 _ I1 q) fun us s2 ⟨vs,H2,I2,r,q2⟩=>⟨I2.kIn,?_⟩) hst hpl
 exact kQ (us:=.ref a::us) (vs:=.ref a::vs) F hr hb hd hx I2 (.cons rfl r) q2
theorem qE {pl:Sem Bool} (he:PE X o ta) (c:Cls X.K C) (hm:Meth X.K C m f) (F:we X.prog X.w X.K X.mg X.base CX k f fd ps sp) (hr:wK k X.A) (hb:Binds X.K fd ps ds) (hd:Vals dvs ds) (hx:Passes CX X E)
  (ht:eval (.Call (.Attribute o m apos) [] [] pos) X.env=(do
   let ov ← eval o X.env
   standAt apos.atName
   let (f,first) ← holding [ov] (getMethod ov m pl)
   callWith pos f first (backTo pos (starEach [] X.env)) (backToKw pos (keywordEach [] X.env))):=by rfl) :
  PE X (.Call (.Attribute o m apos) [] [] pos) (yS C m sp dvs E ta yP):=by
 intro pins s σ H Q I h
 refine PySem.W.methodCall_KW (pl:=pl) (thn (he pins s σ H _ I h) fun u s1 ⟨x,H1,I1,rx,a,dx,fs,ex,ea,l,q⟩=>?_) ht
 subst ex
 obtain rfl:u=Value.ref a:=rx
 refine gb I1 ea c hm l ?_
 exact PySem.W.callWith_K0 (first:=[.ref a]) I1.kIn hm.kp (kQ (us:=[.ref a]) (vs:=[.ref a]) F hr hb hd hx I1 (.cons rfl .nil) q)
structure Mk (K:Ay) (C f:Addr) : Prop where
 makes:PySem.W.makesIn K C=true
 init:PySem.W.findIn K (.ref C) "__init__" = some (some (.ref f))
 fn:PySem.W.isFn K (.ref f)=true
 kp:PySem.W.keepIn K (.ref C)=true
theorem qF {pins:List (Addr × Obj)} {σ:St} {H:Hp} {s:Shared} {Q:VK} {us:List Value} {vs:List V} (M:Mk X.K C f) (F:we X.prog X.w X.K X.mg X.base CX k f fd ps sp) (hr:wK (k+1) X.A) (hb:Binds X.K fd ps ds) (hd:Vals dvs ds)
  (hx:Passes CX X E) (I:Inv X pins σ H s) (r:Vals vs us)
  (h:∀ x dx,H x=none→H dx=none→dx≠x→sp (.ref x::(vs++dvs)) (upd (upd H dx (.own x)) x (.ins C dx [])) (fun v H2=>v=.non∧Q (.ref x) H2) E) :
  wpAny (model X.prog X.w) X.A (call (.ref C) us) (EP X pins σ Q) X.xe s:=by
 have hq:=h (s.heap.objs.size+1) s.heap.objs.size (I.hok.fresh (Nat.le_succ _)) (I.hok.fresh (Jm _)) (Nat.ne_of_lt (Nat.lt_succ_self _))
 have I2:=Inv.made (C:=C) I
 have r2:Vals (V.ref (s.heap.objs.size+1)::(vs++dvs)) (Value.ref (s.heap.objs.size+1)::(us++ds)):=.cons rfl (r.append hd)
 have hl:(Value.ref (s.heap.objs.size+1)::us++ds).length=ps.length:=by
  have e:=r2.length
  rw [F.len _ _ _ _ hq] at e
  exact e.symm
 refine wpAny_call (qD (f:=f) I.kIn M.makes M.init (beq_iff_eq.mp M.fn) (codeAny_mono (F.run _ X.stack _ _ ⟨Value.ref (s.heap.objs.size+1)::us,[]⟩ (Value.ref (s.heap.objs.size+1)::(us++ds)) _ _ E (hr.make C us [])
  (I2.env0.make C us []) (hb _ (Value.ref (s.heap.objs.size+1)::us) I2.kIn hl) r2 hq) fun r s' hq'=>?_))
 cases r with
 | error e=>exact hx pins σ _ _ e s' I2 hq'
 | ok fl =>
  cases fl with
  | ret u =>
   obtain ⟨v,H',I3,rv,ev,q3⟩:=I2.after hq'
   subst ev
   exact ⟨rv,⟨V.ref (s.heap.objs.size+1),H',I3,rfl,q3⟩⟩
  | next=>exact False.elim hq'
  | brk=>exact False.elim hq'
  | cont=>exact False.elim hq'
theorem ud (M:Mk X.K C f) (F:we X.prog X.w X.K X.mg X.base CX k f fd ps sp) (hr:wK (k+1) X.A) (hg:Gl X x) (hm:X.mg x=some (.ref C)) (hb:Binds X.K fd ps ds) (hd:Vals dvs ds) (hx:Passes CX X E)
  (ha:PA X (e::es) t) (hdb:(x==("__debug__" : Str))=false:=by decide) (he:starEach (e::es) X.env=(false,eval e X.env)::starEach es X.env:=by rfl) (hpl:(backTo pos (starEach es X.env)).any (·.1)=false:=by rfl) :
  PE X (.Call (.Name x p) (e::es) [] pos) (tMake C sp dvs E t):=by
 intro pins s σ H Q I h
 refine wpAny_Call_Name_kw (fQ I hg hm ?_ hdb)
 refine PySem.W.callWith_K (h₀:=X.base) I.ok.mod.kin M.kp (thn (ha pos pins s σ H _ I h) fun us s1 ⟨vs,H1,I1,r,q⟩=>⟨I1.kIn,?_⟩) he hpl
 exact qF M F hr hb hd hx I1 r q
end
def PK (X:Cx) (kws:List Keyword) (t:TA) : Prop :=
 ∀ (pos:Pos) (pins:List (Addr × Obj)) (s:Shared) (σ:St) (H:Hp) (Q:List V→Hp→Prop),Inv X pins σ H s→t σ H Q→wpAny (model X.prog X.w) X.A (evalAll ((backToKw pos (keywordEach kws X.env)).map (·.2))) (AP X pins σ Q) X.xe s
section
variable {X:Cx} {CX:CXT} {k:Nat} {f C:Addr} {fd:FuncData} {ps ks:List Str} {sp:Sp} {E:XK} {x m:Str} {p pos apos kpos:Pos} {e o:Expr} {es:List Expr} {kws:List Keyword} {te ta:TE} {t tk:TA} {nm:Option Str}
theorem vm:PK X [] yP:=fun _ _ _ _ H Q I h=>wpAny_evalAll_nil ⟨[],H,I,.nil,h⟩
theorem ue (ha:PE X e te) (hr:PK X kws t) : PK X (⟨nm,e,kpos⟩::kws) (xV te t):=by
 intro pos pins s σ H Q I h
 show wpAny _ _ (evalAll ((do let v ← eval e X.env;standAt pos;pure v)::(backToKw pos (keywordEach kws X.env)).map (·.2))) _ _ s
 refine wpAny_evalAll_cons (Jf (thn (ha pins s σ H _ I h) fun u s1 ⟨x,H1,I1,r1,q1⟩=>Jf (wpAny_standAt (Y0 ?_))))
 exact thn (hr pos pins s1 σ H1 _ I1 q1) fun us s2 ⟨xs,H2,I2,r2,q2⟩=>⟨x::xs,H2,I2,.cons r1 r2,q2⟩
variable {g:List Value→List Value→List Value} {gV:List V→List V→List V}
end
structure wb (N P:List Str) (sc:Scope) : Prop where
 kind:sc.kind=.function
 co:sc.isCoroutine=false
 gen:sc.isGenerator=false
 nd:N.Nodup
 pre:N.take P.length=P
 par:∀ x∈P,sc.names.lookup x=some .local∨sc.names.lookup x=some .cell
 nofree:∀ y∈sc.names,y.2≠.free
theorem wy {N P:List Str} {sc:Scope} (a:sc.kind=.function) (b:sc.isCoroutine=false) (c:sc.isGenerator=false) (e:N.take P.length=P) (h:N.Nodup∧(∀ x∈P,sc.names.lookup x=some .local∨sc.names.lookup x=some .cell)∧∀ y∈sc.names,y.2≠.free) : wb N P sc:=⟨a,b,c,h.1,e,h.2.1,h.2.2⟩
theorem j5 {kindOf:Str→Option NameKind} {x:Str} : ∀ {binds:List (Str × Value)} {m:Str→Option Value},(∀ v,(x,v)∉binds)→bindL kindOf binds m x=m x
 | [],_,_=>rfl
 | (n,v)::r,m,h=>by
  unfold bindL
  rw [j5 fun w hw=>h w (Jd _ hw)]
  split
  ·have:x≠n:=by rintro rfl;exact h v Jb
   simp [this]
  ·rfl
theorem j6 {kindOf:Str→Option NameKind} {x:Str} : ∀ {binds:List (Str × Value)} {m:Str→Option Value},(∀ v,(x,v)∉binds)→bindC kindOf binds m x=m x
 | [],_,_=>rfl
 | (n,v)::r,m,h=>by
  unfold bindC
  rw [j6 fun w hw=>h w (Jd _ hw)]
  split
  ·rfl
  ·have:x≠n:=by rintro rfl;exact h v Jb
   simp [this]
theorem j7 {kindOf:Str→Option NameKind} {x:Str} {v:Value} : ∀ {P:List Str} {vs:List Value} {i:Nat} {m:Str→Option Value},P.Nodup→P[i]? = some x→vs[i]? = some v→kindOf x=some .local →
  bindL kindOf (P.zip vs) m x=some v
 | [],_,_,_,_,h,_,_=>by simp at h
 | _::_,[],_,_,_,_,h,_=>by simp at h
 | p::P,w::vs,0,m,nd,h1,h2,hk=>by
  simp at h1 h2;subst h1;subst h2
  show bindL kindOf ((p,w)::P.zip vs) m p=_
  unfold bindL
  rw [j5 fun v hv=>(List.nodup_cons.mp nd).1 (List.of_mem_zip hv).1,J3 hk]
  simp
 | p::P,w::vs,i+1,m,nd,h1,h2,hk=>by
  show bindL kindOf ((p,w)::P.zip vs) m x=_
  unfold bindL
  exact j7 (i:=i) (List.nodup_cons.mp nd).2 (by simpa using h1) (by simpa using h2) hk
theorem j8 {kindOf:Str→Option NameKind} {x:Str} {v:Value} : ∀ {P:List Str} {vs:List Value} {i:Nat} {m:Str→Option Value},P.Nodup→P[i]? = some x→vs[i]? = some v→kindOf x≠some .local →
  bindC kindOf (P.zip vs) m x=some v
 | [],_,_,_,_,h,_,_=>by simp at h
 | _::_,[],_,_,_,_,h,_=>by simp at h
 | p::P,w::vs,0,m,nd,h1,h2,hk=>by
  simp at h1 h2;subst h1;subst h2
  show bindC kindOf ((p,w)::P.zip vs) m p=_
  unfold bindC
  rw [j6 fun v hv=>(List.nodup_cons.mp nd).1 (List.of_mem_zip hv).1,J0 hk]
  simp
 | p::P,w::vs,i+1,m,nd,h1,h2,hk=>by
  show bindC kindOf ((p,w)::P.zip vs) m x=_
  unfold bindC
  exact j8 (i:=i) (List.nodup_cons.mp nd).2 (by simpa using h1) (by simpa using h2) hk
def start (N:List Str) (vs:List V) : St:=vs.map some++List.replicate (N.length-vs.length) none
def zA (CX:CXT) (P:Program) (w:World) (K:Ay) (mg:Str→Option Value) (base:Heap) (N:List Str) (qual:Str) (scope:Scope) (f:Addr) (cd:Value) (A:Around) (outer:List Env) (s:Shared) (H:Hp) (E:XK) : Cx where
 prog:=P
 w:=w
 K:=K
 mg:=mg
 base:=base
 A:=A.deeper (envOfC qual scope s.heap.objs.size f cd)
 N:=N
 s₀:=s
 H₀:=H
 env:=envOfC qual scope s.heap.objs.size f cd
 outer:=outer
 stack:=envOfC qual scope s.heap.objs.size f cd::outer
 ex:=[]
 calm:=true
 fn:=fun _=>true
 pn:=[]
 xe:=fun e s'=>wpAny (model P w) (A.deeper (envOfC qual scope s.heap.objs.size f cd)) (leaving (envOfC qual scope s.heap.objs.size f cd) e) (fun _ s''=>CX outer H s E e s'') (fun e' s''=>CX outer H s E e' s'') s'
theorem ma {sc:Scope} {n:Nat} {x:Str} (h:sc.names.lookup x=some .cell) : ∃ c,(cellsFrom n sc.names []).lookup x=some c:=by
 have q:=PySem.W.cellsFrom_some sc.names n [] (.inl h)
 exact Option.isSome_iff_exists.mp q
theorem oX {CX:CXT} {P:Program} {w:World} {K:Ay} {mg:Str→Option Value} {base:Heap} {N ps:List Str} {qual:Str} {scope:Scope} {f:Addr} {cd:Value} {A:Around} {outer:List Env} {s s1:Shared} {H:Hp} {E:XK} {us:List Value} {vs:List V}
  (S:wb N ps scope) (hd:A.handled=none) (e0:zN P w K mg base A outer s H) (hl:vs.length=ps.length) (r:Vals vs us)
  (x:InCallC s s.heap.objs.size (bindL (envOfC qual scope s.heap.objs.size f cd).kindOf (ps.zip us) fun _=>none) (cellsFrom (s.heap.objs.size+1) scope.names []) (bindC (envOfC qual scope s.heap.objs.size f cd).kindOf (ps.zip us) fun _=>none) s1) :
  Inv (zA CX P w K mg base N qual scope f cd A outer s H E) [] (start N vs) H s1:=by
 have hpl:ps.length≤N.length:=by have:=congrArg List.length S.pre;rw [Y4] at this;omega
 obtain ⟨h1,tk,rfl,hk⟩:=x.done
 have noA:∀ b:Addr,b∉(zA CX P w K mg base N qual scope f cd A outer s H E).ex:=fun b z=>absurd (show b∈([] : List Addr) from z) (by simp)
 refine ⟨⟨e0.mod,S.kind,rfl,rfl,Jm _,fun y z c h1 h2=>?_,fun y hy=>?_,fun y c _ h=>?_,fun _=>hd,Around.frames_deeper e0.frames,.inr ⟨rfl,rfl⟩,fun b z=>absurd z (noA b),e0.bs,e0.bsz,fun b _ _=>noA b,fun b z=>absurd z (noA b),e0.funs,e0.frf⟩,
  rfl,e0.bare,Un.kept hk,⟨_,x.toInCall.ns,fun i y v h1 h2 h3=>?_⟩,fun y c h=>⟨_,x.cell y c h⟩,e0.hok.fresh (Jm _),fun y c h=>?_,fun p hp=>absurd (show p∈([] : List (Addr × Obj)) from hp) (by simp),e0.hok.kept hk,?_⟩
 ·exact name_of_addr x.apart (PySem.mem_of_lookup h1) (PySem.mem_of_lookup h2)
 ·have hy:scope.names.lookup y=some .cell∨scope.names.lookup y=some .free:=hy
  rcases hy with hy | hy
  ·exact ma hy
  ·exact absurd rfl (S.nofree _ (PySem.mem_of_lookup hy))
 ·exact Y9 (x.above y c (PySem.mem_of_lookup h))
 ·have hi:i<vs.length:=by
   unfold start at h2
   by_cases hi:i<vs.length
   ·exact hi
   ·rw [Yg (by simpa using hi)] at h2
    rw [List.getElem?_replicate] at h2
    split at h2 <;> cases h2
  have ha:vs[i]? = some v:=by
   unfold start at h2
   rw [List.getElem?_append_left (by simpa using hi),Jw] at h2
   cases e:vs[i]? with
   | none=>rw [e] at h2;cases h2
   | some a=>rw [e] at h2;cases h2;rfl
  obtain ⟨u,hu,rv⟩:=r.get ha
  have hp:ps[i]? = some y:=by
   rw [← S.pre,List.getElem?_take_of_lt (by omega)];exact h1
  have ndP:ps.Nodup:=by rw [← S.pre];exact S.nd.sublist (List.take_sublist _ _)
  refine ⟨u,rv,?_⟩
  rcases S.par y (List.mem_of_getElem? hp) with k | k
  ·exact .inl ⟨k,j7 ndP hp hu k⟩
  ·obtain ⟨c,e⟩:=ma (n:=s.heap.objs.size+1) k
   refine .inr ⟨.inl k,c,e,?_⟩
   have q:=x.cell y c e
   rw [j8 ndP hp hu (by show scope.names.lookup y≠_;rw [k];decide)] at q
   exact q
 ·exact e0.hok.fresh (Y9 (x.above y c (PySem.mem_of_lookup h)))
 ·unfold start
  show _=N.length
  rw [Jc,J9,List.length_replicate]
  omega
theorem uW {CX:CXT} {P:Program} {w:World} {K:Ay} {mg:Str→Option Value} {base:Heap} {k:Nat} {f:Addr} {name qual:Str} {params:Arguments} {body:List Stmt} {scope:Scope} {dV kV doc pm cdv ct oc:Value} {an od:Option Addr}
  {osl:Array (Option Value)} {N ps:List Str} {sp:Sp} (lk:K.lookup f=some ⟨oc,od,.func (PySem.W.fnOf name qual params body scope dV kV doc pm an cdv ct),osl⟩) (hcd:PySem.W.codeIn K cdv qual=true) (S:wb N ps scope)
  (len:∀ vs H Q E,sp vs H Q E→vs.length=ps.length)
  (hbody:∀ (A:Around) (outer:List Env) (s:Shared) (H:Hp) (vs:List V) (Q:VK) (E:XK),wK k (A.deeper (envOfC qual scope s.heap.objs.size f cdv))→sp vs H Q E →
   ∃ t,PSs (zA CX P w K mg base N qual scope f cdv A outer s H E) body t∧t { nx:=fun _ H'=>Q .non H',rt:=Q } (start N vs) H) :
  we P w K mg base CX (k+1) f (PySem.W.fnOf name qual params body scope dV kV doc pm an cdv ct) ps sp:=by
 refine ⟨len,fun A outer s H args us vs Q E hr e0 hb r hsp=>?_⟩
 have hl:=len _ _ _ _ hsp
 have KX:K.In s.heap:=e0.mod.kin.keeps fun b o e=>(e0.bs b o e).1
 have lim:s.heap.NoLimit:=e0.mod.nolimit.keeps fun b o e=>(e0.bs b o e).1
 have hkind:∀ y∈ps.zip us,scope.names.lookup y.1=some .local∨(scope.names.lookup y.1=some .cell∧((cellsFrom (s.heap.objs.size+1) scope.names []).lookup y.1).isSome=true):=fun ⟨n,v⟩ hy=>by
  rcases S.par n (List.of_mem_zip hy).1 with q | q
  ·exact .inl q
  ·exact .inr ⟨q,PySem.W.cellsFrom_some _ _ _ (.inl q)⟩
 refine codeAny_call_function hr.depth (KX _ _ lk) rfl S.co S.gen rfl (PySem.W.codeRec_of KX hcd) (hb _ _ _ _ ?_)
 refine wpAny_newFunctionEnv_cells S.kind hkind fun env he s1 x=>?_
 subst he
 refine ⟨lim.keeps x.toInCall.keep,codeAny_func ?_⟩
 obtain ⟨t,ht,hq⟩:=hbody A outer s H vs Q E (hr.deeper _) hsp
 have I:Inv (zA CX P w K mg base N qual scope f cdv A outer s H E) [] (start N vs) H s1:=oX S hr.hd e0 hl r x
 refine wpAny_mono (ht [] s1 (start N vs) H _ I hq) (fun fl s' hs=>?_) fun e s' hs=>hs
 have fin:∀ {σ':St} {H':Hp} {v:V} {u:Value},Inv (zA CX P w K mg base N qual scope f cdv A outer s H E) [] σ' H' s'→RelV v u→Q v H'→CE outer P w H s Q u s' :=
  fun {σ' H' v u} J rv q=>⟨v,H',J.os,J.bare,J.base,J.hok,rv,q⟩
 cases fl with
 | ret u =>
  obtain ⟨v,σ',H',J,rv,q⟩:=hs
  exact fin J rv q
 | next =>
  obtain ⟨σ',H',J,q⟩:=hs
  exact fin (v:=V.non) (u:=Value.none) J rfl q
 | brk =>
  obtain ⟨_,_,_,q⟩:=hs
  exact False.elim q
 | cont =>
  obtain ⟨_,_,_,q⟩:=hs
  exact False.elim q
end L2
namespace L2
open PySem PySem.Spec PyProof.Rows
section
variable {X:Cx} {x:Str} {p pos:Pos} {e:Expr} {es:List Expr} {t:TA} {id T:String} {r:List V→Hp→VK→Prop}
def tCB (r:List V→Hp→VK→Prop) (t:TA) : TE:=fun σ H Q=>t σ H fun vs H1=>r vs H1 Q
theorem aJ (hc:xU X (.builtin id) r) (hg:Gl X x) (hm:X.mg x=none) (hv:bootBuiltins x=some (.builtin id)) (ha:PA X (e::es) t) (hn:x ≠ "__name__":=by decide) (hdb:(x==("__debug__" : Str))=false:=by decide)
  (he:starEach (e::es) X.env=(false,eval e X.env)::starEach es X.env:=by rfl) (hpl:(backTo pos (starEach es X.env)).any (·.1)=false:=by rfl) : PE X (.Call (.Name x p) (e::es) [] pos) (tCB r t):=by
 intro pins s σ H Q I h
 refine wpAny_Call_Name_kw (f9 I hg hm hv ?_ hn hdb)
 exact PyProof.Rows.callWith_builtin1 (thn (ha pos pins s σ H _ I h) fun us s1 ⟨vs,H1,I1,r1,q1⟩=>hc pins s1 σ H1 vs us Q I1 r1 q1) he hpl
theorem bN (hc:xU X (.type T) r) (hg:Gl X x) (hm:X.mg x=none) (hv:bootBuiltins x=some (.type T)) (ha:PA X (e::es) t) (hn:x ≠ "__name__":=by decide) (hdb:(x==("__debug__" : Str))=false:=by decide)
  (he:starEach (e::es) X.env=(false,eval e X.env)::starEach es X.env:=by rfl) (hpl:(backTo pos (starEach es X.env)).any (·.1)=false:=by rfl) : PE X (.Call (.Name x p) (e::es) [] pos) (tCB r t):=by
 intro pins s σ H Q I h
 refine wpAny_Call_Name_kw (f9 I hg hm hv ?_ hn hdb)
 exact PyProof.Rows.callWith_type1 (thn (ha pos pins s σ H _ I h) fun us s1 ⟨vs,H1,I1,r1,q1⟩=>hc pins s1 σ H1 vs us Q I1 r1 q1) he hpl
end
end L2
namespace HT
open PySem PyProof.Rows
def lexLt:List Int→List Int→Bool
 | [],[]=>false
 | [],_::_=>true
 | _::_,[]=>false
 | x::xs,y::ys=>if x=y then lexLt xs ys else decide (x<y)
theorem d0 (x y:Int) (xs ys:List Int) : lexLt (x::xs) (y::ys)=if x=y then lexLt xs ys else decide (x<y):=rfl
theorem eJ:lexLt [] []=false:=rfl
theorem ji (y:Int) (ys:List Int) : lexLt [] (y::ys)=true:=rfl
theorem jk (x:Int) (xs:List Int) : lexLt (x::xs) []=false:=rfl
theorem qG (A:Around) (s:Shared) (a:Int) (t:Tok) (c:Int) (u:Tok) : ∃ e,SeqAt.EqAt A s (.int a t) (.int c u) e∧(e=true↔a=c) :=
 ⟨(a==c),SeqAt.EqAt.int_int a t c u,by simp⟩
theorem qH (A:Around) (s:Shared) (a:Int) (t:Tok) (c:Int) (u:Tok) (prog:Program) (w:World) (E:Value→Shared→Prop) (Q:Value→Shared→Prop) (h:Q (.bool (decide (a<c))) s) :
  wpAny (model prog w) A (richCompare .Lt (.int a t) (.int c u)) Q E s :=
 (PyProof.Rows.lt_int h:wpAny (model prog w) A (compareOp .Lt (.int a t) (.int c u)) Q E s)
section
open PySem.SeqAt
open PySem.AutoSeq1 (wpAny_loadPart')
open PySem.MeetsSeq PySem.MeetsSeq2 PySem.MeetsSeq3
theorem jT (l b:Addr) (items items2:Array Value) (n n2:Nat) (dd dd2:Option Addr) (sl sl2:Array (Option Value)) (ns ms:List Int) (hi:IntsAre items.toList ns) (hj:IntsAre items2.toList ms) :
  Meets (Builtin.«tuple.__lt__» ⟨[.ref l,.ref b],[]⟩)
   (fun _ R s=>s.heap.get? l=some { cls:=.type "tuple",dict:=dd,data:=.seq items n,slots:=sl }∧s.heap.get? b=some { cls:=.type "tuple",dict:=dd2,data:=.seq items2 n2,slots:=sl2 } ∧
    R (.ok (.ret (.bool (lexLt ns ms)))) s) :=
 .of_wp fun prog w A R s h=>by
  obtain ⟨hp,g,d,tk,os⟩:=s;obtain ⟨hl,hb,h⟩:=h
  have f2:=AutoSeq1.sub_tuple_tuple
  have z1:items.size=ns.length:=by rw [← hi.length];simp
  have z2:items2.size=ms.length:=by rw [← hj.length];simp
  wp_walk using wpAny_loadPart' hl,wpAny_loadPart' hb,wpAny_forIn_list _ (fun rest b s'=>b.1=none∧s'=⟨hp,g,d,tk,os⟩∧∃ (vs ws:List Value) (ns' ms':List Int),rest=vs.zip ws ∧
   IntsAre vs ns'∧IntsAre ws ms'∧ns'.length+items2.size=ms'.length+items.size∧R (.ok (.ret (.bool (lexLt ns' ms')))) ⟨hp,g,d,tk,os⟩) _
  case turn =>
   rintro ⟨y,x⟩ rest b s' ⟨hb',rfl,vs,ws,ns',ms',hz,hvi,hwi,hlen,hR⟩
   cases hvi with
   | nil=>rw [List.zip_nil_left] at hz;cases hz
   | cons a t hvi' =>
    cases hwi with
    | nil=>rw [List.zip_nil_right] at hz;cases hz
    | cons c u hwi' =>
     rw [List.zip_cons_cons] at hz
     injection hz with hyx hrest
     injection hyx with hy hx
     subst hy hx
     rw [d0] at hR
     simp only [Jy] at hlen
     obtain ⟨e,he,hiff⟩:=qG A.in1 ⟨hp,g,d,tk,os⟩ a t c u
     refine Jf (he prog w _ _ ?_)
     cases e with
     | true =>
      rw [J3 (hiff.mp rfl)] at hR
      wp_walk
      exact ⟨rfl,rfl,_,_,_,_,hrest,hvi',hwi',by omega,hR⟩
     | false =>
      rw [J0 (fun q=>absurd (hiff.mpr q) Jn)] at hR
      have hri:=qH A.in1 ⟨hp,g,d,tk,os⟩ a t c u prog w
      wp_walk using hri
      exact ⟨_,rfl,by simpa using hR⟩
  case fin =>
   rintro ⟨b1,b2⟩ s' ⟨hb',rfl,vs,ws,ns',ms',hz,hvi,hwi,hlen,hR⟩
   simp only at hb'
   subst hb'
   have hv:lexLt ns' ms'=decide (items.size<items2.size):=by
    cases hvi with
    | nil =>
     cases hwi with
     | nil =>
      simp only [List.length_nil] at hlen
      rw [eJ]
      exact (Js (by omega)).symm
     | cons c u hw =>
      simp only [List.length_nil,Jy] at hlen
      rw [ji]
      exact (Je (by omega)).symm
    | cons a t hv =>
     cases hwi with
     | nil =>
      simp only [List.length_nil,Jy] at hlen
      rw [jk]
      exact (Js (by omega)).symm
     | cons c u hw =>
      rw [List.zip_cons_cons] at hz
      cases hz
   rw [hv] at hR
   wp_walk
   exact ⟨_,rfl,by simpa [Builtin.Tuple.tupleCompareSizes] using hR⟩
  case h =>
   exact ⟨rfl,rfl,items.toList,items2.toList,ns,ms,rfl,hi,hj,by omega,h⟩
end
section
variable {prog:Program} {w:World} {A:Around} {E:Value→Shared→Prop} {s:Shared}
theorem m3 {l b:Addr} {items items2:Array Value} {ns ms:List Int} {Q:Value→Shared→Prop} (hl:IsTup s.heap l items) (hb:IsTup s.heap b items2) (hi:IntsAre items.toList ns) (hj:IntsAre items2.toList ms)
  (hu:A.units<cLine) (h:Q (.bool (lexLt ns ms)) s) : wpAny (model prog w) A (compareOp .Lt (.ref l) (.ref b)) Q E s:=by
 obtain ⟨⟨cls,dd,data,sl⟩,ho,hc,n,hd⟩:=id hl
 obtain ⟨⟨cls2,dd2,data2,sl2⟩,ho2,hc2,n2,hd2⟩:=id hb
 simp only at hc hd hc2 hd2
 subst hc hd hc2 hd2
 exact richCompare_meets_room (op:=.Lt) ⟨_,ho,rfl⟩ ⟨_,ho2,rfl⟩ PySem.F.slot_tuple_lt PySem.F.entry_tuple_lt (PySem.F.args_tuple_lt_2 _ _) (jT l b items items2 n n2 dd dd2 sl sl2 ns ms hi hj)
  ⟨ho,ho2,show Value.bool (lexLt ns ms)≠Value.notImplemented∧Q (.bool (lexLt ns ms)) s from ⟨(fun x=>nomatch x),h⟩⟩ hu
theorem uf {t b:Addr} {vs ws:List Value} {Q:Value→Shared→Prop} (ht:IsTup s.heap t vs.toArray) (hb:IsTup s.heap b ws.toArray) (hv:vs≠[])
  (h1:ws=[]→Q (.ref t) s) (h2:ws≠[]→Q (.ref s.heap.objs.size) { s with heap:=s.heap.push { cls:=.type "tuple",data:=.seq (vs++ws).toArray } })
  (hsz:vs.length+ws.length≤sizeLine) : wpAny (model prog w) A (binaryOp .Add (.ref t) (.ref b)) Q E s:=by
 obtain ⟨⟨cls,dd,data,sl⟩,ho,hc,n,hd⟩:=id ht
 obtain ⟨⟨cls2,dd2,data2,sl2⟩,ho2,hc2,n2,hd2⟩:=id hb
 simp only at hc hd hc2 hd2
 subst hc hd hc2 hd2
 have e:vs.toArray++ws.toArray=(vs++ws).toArray:=by simp
 by_cases hw:ws=[]
 ·exact concat_meets ⟨_,ho,rfl⟩ ⟨_,ho2,rfl⟩ noFill_tuple_add seq_tuple_add PySem.F.slot_tuple_add PySem.F.entry_tuple_add (PySem.F.args_tuple_add_2 _ _)
   (tuple_addW1 t b vs.toArray ws.toArray n n2 dd dd2 sl sl2 (by simpa using hv) (by simp [hw])) ⟨ho,ho2,h1 hw⟩
 ·refine concat_meets ⟨_,ho,rfl⟩ ⟨_,ho2,rfl⟩ noFill_tuple_add seq_tuple_add PySem.F.slot_tuple_add PySem.F.entry_tuple_add (PySem.F.args_tuple_add_2 _ _)
   (tuple_addW2 t b vs.toArray ws.toArray n n2 dd dd2 sl sl2 (by simpa using hv) (by simpa using hw) (by rw [Jk,Jk];exact hsz)) ⟨ho,ho2,?_⟩
  rw [e]
  exact h2 hw
def sIx (n d:Nat) : Option Int→Nat
 | none=>d
 | some v=>if v<0 then (v+(n:Int)).toNat else min v.toNat n
theorem i6 (n d k:Nat) : sIx n d (some (k:Int))=min k n:=by
 show (if (k:Int)<0 then ((k:Int)+(n:Int)).toNat else min (k:Int).toNat n)=min k n
 rw [J0 (by omega),Jp]
end
end HT
namespace L2
open PySem PySem.Spec PyProof.Rows
abbrev TO:=St→Hp→(Option Int→Hp→Prop)→Prop
def PO (X:Cx) (e:Option Expr) (t:TO) : Prop :=
 ∀ (pins:List (Addr × Obj)) (s:Shared) (σ:St) (H:Hp) (Q:Option Int→Hp→Prop),Inv X pins σ H s→t σ H Q →
  wpAny (model X.prog X.w) X.A (evalPart e X.env) (fun u s'=>∃ o H',Inv X pins σ H' s'∧IsPart u o∧Q o H') X.xe s
def tNoPart:TO:=fun _ H Q=>Q none H
def tPart (t:TE) : TO:=fun σ H Q=>t σ H fun x H1=>∃ i,x=.int i∧Q (some i) H1
theorem intsAre_of {ns:List Int} : ∀ {us:List Value},Vals (ns.map V.int) us→IntsAre us ns:=by
 induction ns with
 | nil=>intro us r;rw [List.map_nil] at r;cases r;exact .nil
 | cons n ns ih =>
  intro us r
  rw [List.map_cons] at r
  cases r with
  | cons r1 r2 =>
   obtain ⟨t,e⟩:=r1
   subst e
   exact .cons n t (ih r2)
section
variable {X:Cx} {e:Expr} {te:TE} {lo hi:Option Expr} {tl th:TO} {pos p2:Pos}
theorem oj:PO X none tNoPart:=by
 intro pins s σ H Q I h
 rw [evalPart_none]
 exact Y0 ⟨none,H,I,.none,h⟩
theorem i7 (h:PE X e te) : PO X (some e) (tPart te):=by
 intro pins s σ H Q I hw
 rw [evalPart_some]
 refine thn (h pins s σ H _ I hw) fun u s1 ⟨x,H1,I1,r1,q1⟩=>?_
 obtain ⟨i,rfl,q⟩:=q1
 obtain ⟨t,rfl⟩:=r1
 exact ⟨some i,H1,I1,.int i t,q⟩
def SlR (X:Cx) (r:V→Option Int→Option Int→Hp→VK→Prop) : Prop :=
 ∀ (pins:List (Addr × Obj)) (s:Shared) (σ:St) (H:Hp) (x:V) (v vl vu:Value) (lo hi:Option Int) (sl:Addr) (Q:VK),Inv X pins σ H s→RelV x v→s.heap.IsSliceOf sl vl vu .none→IsPart vl lo→IsPart vu hi→r x lo hi H Q →
  ∃ T id,typeLookup (.type T) "__getitem__" = pure (some (.builtin id))∧s.TypeIs v T∧wpAny (model X.prog X.w) X.A (getItem v (.ref sl)) (EP X pins σ Q) X.xe s
def tSl (r:V→Option Int→Option Int→Hp→VK→Prop) (te:TE) (tl th:TO) : TE:=fun σ H Q=>te σ H fun x H1=>tl σ H1 fun l H2=>th σ H2 fun u H3=>r x l u H3 Q
theorem jl {r:V→Option Int→Option Int→Hp→VK→Prop} (hr:SlR X r) (he:PE X e te) (hl:PO X lo tl) (hu:PO X hi th) : PE X (.Subscript e (.Slice lo hi none p2) pos) (tSl r te tl th):=by
 intro pins s σ H Q I h
 refine Subscript_ (thn (he pins s σ H _ I h) fun v s1 ⟨x,H1,I1,r1,q1⟩=>?_)
 refine wpAny_Slice (thn (hl pins s1 σ H1 _ I1 q1) fun vl s2 ⟨l,H2,I2,pl,q2⟩=>thn (hu pins s2 σ H2 _ I2 q2) fun vu s3 ⟨u,H3,I3,pu,q3⟩=>?_)
 rw [evalPart_none]
 refine Y0 ?_
 have I4:Inv X pins σ H3 { s3 with heap:=s3.heap.push { cls:=.type "slice",data:=.fields #[vl,vu,.none] } }:=I3.kept (t':=s3.toks) fun b ob q=>Jh _ q
 obtain ⟨T,id,hT,ht,hg⟩:=hr pins { s3 with heap:=s3.heap.push { cls:=.type "slice",data:=.fields #[vl,vu,.none] } } σ H3 x v vl vu l u s3.heap.objs.size Q I4 r1 (Heap.IsSliceOf.new ..) pl pu q3
 show wpAny (model X.prog X.w) X.A (subscriptTail e (.Slice lo hi none p2) v (.ref s3.heap.objs.size)) (EP X pins σ Q) X.xe { s3 with heap:=s3.heap.push { cls:=.type "slice",data:=.fields #[vl,vu,.none] } }
 exact tail_any (ops:=[.ref s3.heap.objs.size,v]) ht hT hg (by with_unfolding_all rfl)
def ym (xs:List V) (lo hi:Option Int) : List V:=(xs.drop (HT.sIx xs.length 0 lo)).take (HT.sIx xs.length xs.length hi-HT.sIx xs.length 0 lo)
theorem mh (xs:List V) (lo hi:Option Int) : (ym xs lo hi).length≤xs.length:=by
 unfold ym
 rw [Y4,List.length_drop]
 omega
def rCatT (K:Ay) : R2:=fun x y H Q=>∃ a b xs ys,x=.ref a∧y=.ref b∧SqT K H a xs∧SqT K H b ys∧xs≠[]∧xs.length+ys.length≤sizeLine ∧
 (ys=[]→Q (.ref a) H)∧(ys≠[]→∀ p,H p=none→Q (.ref p) (upd H p (.tup (xs++ys))))
theorem Vals.kS {xs:List V} {us:List Value} (r:Vals xs us) : us=[]↔xs=[]:=by
 cases r with
 | nil=>simp
 | cons _ _=>simp
theorem ug:OpR X (binaryOp .Add) (rCatT X.K):=by
 intro pins s σ H x y v u Q I rx ry h
 obtain ⟨a,b,xs,ys,rfl,rfl,ha,hb,hx,hz,q1,q2⟩:=h
 cases rx
 cases ry
 obtain ⟨its,r1,p1,_⟩:=I.tuple ha
 obtain ⟨its2,r2,p2,_⟩:=I.tuple hb
 refine HT.uf p1 p2 (fun z=>hx (r1.kS.mp z)) (fun z=>⟨.ref a,H,I,rfl,q1 (r2.kS.mp z)⟩) (fun z=>?_) (by rw [← r1.length,← r2.length];exact hz)
 refine ⟨.ref s.heap.objs.size,_,I.laid (t':=s.toks) (o:=.tup (xs++ys)) (fun b ob q=>Jh _ q) (Jm _) ?_,rfl,q2 (fun w=>z (r2.kS.mpr w)) _ (I.hok.fresh (Jm _))⟩
 exact ⟨by rw [Jc];exact hz,_,r1.append r2,IsTup.new _ _⟩
end
end L2
namespace L2
open PySem PySem.Spec PyProof.Rows
def ixN (n:Nat) (i:Int) : Option Nat:=if 0≤i then (if i<n then some i.toNat else none) else if -(n:Int)≤i then some (i+n).toNat else none
def atI {α:Type} (xs:List α) (i:Int) : Option α:=(ixN xs.length i).bind fun j=>xs[j]?
theorem om {n:Nat} {i:Int} {j:Nat} (h:ixN n i=some j) : seqIndex? i n=some j∧j<n ∧ -(n:Int)≤i∧i<n:=by
 unfold ixN at h
 by_cases h0 : 0≤i
 ·rw [J3 h0] at h
  by_cases h1:i<n
  ·rw [J3 h1] at h
   have e:i.toNat=j:=Option.some.inj h
   exact ⟨by rw [seqIndex_of h0 h1,e],by omega,by omega,h1⟩
  ·rw [J0 h1] at h;cases h
 ·rw [J0 h0] at h
  by_cases h1 : -(n:Int)≤i
  ·rw [J3 h1] at h
   have e:(i+n).toNat=j:=Option.some.inj h
   exact ⟨by rw [seqIndex_neg (by omega) h1,e],by omega,h1,by omega⟩
  ·rw [J0 h1] at h;cases h
theorem kT {α:Type} {xs:List α} {i:Int} {v : α} (h:atI xs i=some v) : ∃ j,seqIndex? i xs.length=some j∧xs[j]? = some v∧j<xs.length ∧ -(xs.length:Int)≤i∧i<xs.length:=by
 unfold atI at h
 cases e:ixN xs.length i with
 | none=>rw [e] at h;cases h
 | some j =>
  rw [e] at h
  obtain ⟨h1,h2,h3,h4⟩:=om e
  exact ⟨j,h1,h,h2,h3,h4⟩
theorem cU {α:Type} {xs:List α} {j:Nat} {v : α} (h:xs[j]? = some v) : atI xs (j:Int)=some v:=by
 have hj:j<xs.length:=(Jg.mp h).1
 have e:ixN xs.length (j:Int)=some j:=by
  unfold ixN
  rw [J3 (by omega),J3 (by omega)];simp
 unfold atI;rw [e];exact h
def PlainIx (b:Expr) : Prop:=∀ o i,subscripted b false o i=operate [o,i] (getItem o i)
def IxR (X:Cx) (r:R2) : Prop :=
 ∀ (value slice:Expr) (pins:List (Addr × Obj)) (s:Shared) (σ:St) (H:Hp) (x y:V) (v u:Value) (Q:VK),Inv X pins σ H s→RelV x v→RelV y u→r x y H Q →
  subscripted slice false v u=operate [v,u] (getItem v u)→wpAny (model X.prog X.w) X.A (subscriptTail value slice v u) (EP X pins σ Q) X.xe s
def MtR (X:Cx) (id:String) (r:V→List V→Hp→VK→Prop) : Prop :=
 ∀ (pins:List (Addr × Obj)) (s:Shared) (σ:St) (H:Hp) (x:V) (xs:List V) (v:Value) (us:List Value) (Q:VK),Inv X pins σ H s→RelV x v→Vals xs us→r x xs H Q →
  wpAny (model X.prog X.w) X.A (call (.builtin id) (v::us)) (EP X pins σ Q) X.xe s
section
variable {X:Cx} {a b:Expr} {ta tb:TE} {pos:Pos}
theorem IxR.or {r r':R2} (h:IxR X r) (h':IxR X r') : IxR X (fun x y H Q=>r x y H Q∨r' x y H Q):=by
 intro value slice pins s σ H x y v u Q I rx ry q hs
 rcases q with q | q
 ·exact h value slice pins s σ H x y v u Q I rx ry q hs
 ·exact h' value slice pins s σ H x y v u Q I rx ry q hs
theorem ax {r:R2} (hr:IxR X r) (ha:PE X a ta) (hb:PE X b tb) (hs:PlainIx b) : PE X (.Subscript a b pos) (tOp r ta tb):=by
 intro pins s σ H Q I h
 exact Subscript_ (binT ha hb I h fun v u s2 x y H2 I2 rx ry q=>hr a b pins s2 σ H2 x y v u Q I2 rx ry q (hs _ _))
def rIxL (K:Ay) : R2:=fun x y H Q=>∃ p xs i v,x=.ref p∧y=.int i∧SqL K H p xs∧atI xs i=some v∧Q v H
def rIxT (K:Ay) : R2:=fun x y H Q=>∃ p xs i v,x=.ref p∧y=.int i∧SqT K H p xs∧atI xs i=some v∧Q v H
def rIxS:R2:=fun x y H Q=>∃ z i c,x=.str z∧y=.int i∧z.length≤sizeLine∧atI z.cps.toList i=some c∧Q (.str ⟨#[c]⟩) H
theorem av:IxR X (rIxL X.K):=by
 intro value slice pins s σ H x y v u Q I rx ry h hs
 obtain ⟨p,xs,i,z,rfl,rfl,hq,he,q⟩:=h
 cases rx
 obtain ⟨t,rfl⟩:=ry
 obtain ⟨its,r,pl,hz⟩:=I.list hq
 obtain ⟨j,h1,h2,h3,h4,h5⟩:=kT he
 obtain ⟨w,ew,rw'⟩:=r.get h2
 have hl:=r.length
 have hn:=yz
 have fin:EP X pins σ Q w s:=⟨z,H,I,rw',q⟩
 by_cases h0 : 0≤i
 ·have hj:i.toNat=j:=by
   rw [seqIndex_of h0 h5] at h1
   exact Option.some.inj h1
  exact item_listR pl.isList h0 (by omega) (by rw [hj];simpa using ew) fin hs
 ·have hj:(i+(its.toArray.size:Int)).toNat=j:=by
   rw [seqIndex_neg (by omega) h4] at h1
   rw [Jk,← hl]
   exact Option.some.inj h1
  exact subscriptTail_builtinR (x:=w) pl.isList.typeIs slot_list_getitem.lookup
   (wpAny_getItem_list_neg (Q:=fun r s'=>r=w∧EP X pins σ Q r s') pl.isList (by omega) (by rw [Jk] <;> omega) (by omega) (by rw [hj];simpa using ew) ⟨rfl,fin⟩) hs
theorem aK:IxR X (rIxT X.K):=by
 intro value slice pins s σ H x y v u Q I rx ry h hs
 obtain ⟨p,xs,i,z,rfl,rfl,hq,he,q⟩:=h
 cases rx
 obtain ⟨t,rfl⟩:=ry
 obtain ⟨its,r,pl,hz⟩:=I.tuple hq
 obtain ⟨j,h1,h2,h3,h4,h5⟩:=kT he
 obtain ⟨w,ew,rw'⟩:=r.get h2
 have hl:=r.length
 have hn:=yz
 have fin:EP X pins σ Q w s:=⟨z,H,I,rw',q⟩
 exact subscriptTail_builtinR (x:=w) pl.typeIs slot_tuple_getitem.lookup
  (getItem_tuple (j:=j) (Q:=fun r s'=>r=w∧EP X pins σ Q r s') pl (by omega) (by omega) (by rw [Jk,← hl];exact h1) (by simpa using ew) ⟨rfl,fin⟩) hs
theorem vn:IxR X rIxS:=by
 intro value slice pins s σ H x y v u Q I rx ry h hs
 obtain ⟨z,i,c,rfl,rfl,hz,he,q⟩:=h
 obtain ⟨t,rfl⟩:=rx
 obtain ⟨t',rfl⟩:=ry
 obtain ⟨j,h1,h2,h3,h4,h5⟩:=kT he
 have hl:z.cps.toList.length=z.length:=by simp [Str.length]
 rw [hl] at h1 h4 h5
 have hn:=yz
 exact tail_any (typeIs_str s z t) slot_str_getitem.lookup (getItem_str (c:=c) (by
  have e1:decide (i < -(2 ^ 63:Int))=false:=Js (by omega)
  have e2:decide (i ≥ 2 ^ 63)=false:=Js (by omega)
  rw [e1,e2,Bool.or_false]) (by rw [h1];simpa using h2) ⟨.str ⟨#[c]⟩,H,I.tok _,⟨_,rfl⟩,q⟩) hs
def rIx (K:Ay) : R2:=fun x y H Q=>rIxL K x y H Q∨rIxT K x y H Q∨rIxS x y H Q
theorem qI:IxR X (rIx X.K):=av.or (aK.or vn)
theorem m4 (its:List Value) (n j:Nat) (u:Value) : Obj.mapSeq (·.setIfInBounds j u) { cls:=.type "list",data:=.seq its.toArray n }={ cls:=.type "list",data:=.seq (its.set j u).toArray n }:=by
 simp [Obj.mapSeq]
theorem Inv.lst {pins:List (Addr × Obj)} {σ:St} {H:Hp} {s:Shared} {p:Addr} {xs:List V} (I:Inv X pins σ H s) (h:H p=some (.lst xs)) :
  ∃ (its:List Value) (n:Nat),Vals xs its∧s.heap.get? p=some { cls:=.type "list",data:=.seq its.toArray n }∧xs.length≤sizeLine:=by
 obtain ⟨z,its,n,r,e⟩:=I.hok p _ h
 exact ⟨its,n,r,e,z⟩
theorem Inv.lstUpd {pins:List (Addr × Obj)} {σ:St} {H:Hp} {s:Shared} {p:Addr} {xs ys:List V} {its its':List Value} {n n':Nat} {f:Obj→Obj} (I:Inv X pins σ H s) (h:H p=some (.lst xs))
  (ho:s.heap.get? p=some { cls:=.type "list",data:=.seq its.toArray n }) (hf:f { cls:=.type "list",data:=.seq its.toArray n }={ cls:=.type "list",data:=.seq its'.toArray n' }) (r:Vals ys its') (hz:ys.length≤sizeLine) (t:Nat) :
  Inv X pins σ (upd H p (.lst ys)) { s with heap:=s.heap.update p f,toks:=t }:=by
 have e:(s.heap.update p f).get? p=some { cls:=.type "list",data:=.seq its'.toArray n' }:=by
  rw [Heap.get?_update_self f ho (by rw [hf] <;> rfl),hf]
 refine I.write (x:=p) (e:=p) (by rw [h];trivial) (.inl rfl) (fun b u hb q=>(Heap.get?_update_other _ _ (Ne.symm hb)).trans q) ⟨_,e⟩ ?_
 exact ⟨hz,its',n',r,e⟩
def rSetL:V→V→V→Hp→(Hp→Prop)→Prop:=fun o i v H Q=>∃ p xs k j,o=.ref p∧i=.int k∧H p=some (.lst xs)∧ixN xs.length k=some j∧Q (upd H p (.lst (xs.set j v)))
theorem set_list:PSet X rSetL:=by
 intro pins s σ H o i v ov iv u Q I ro ri rv h
 obtain ⟨p,xs,k,j,rfl,rfl,hp,hj,q⟩:=h
 cases ro
 obtain ⟨t,rfl⟩:=ri
 obtain ⟨its,n,r,ho,hz⟩:=I.lst hp
 obtain ⟨h1,h2,h3,h4⟩:=om hj
 have hl:=r.length
 have hn:=yz
 have I':Inv X pins σ (upd H p (.lst (xs.set j v))) { s with heap:=s.heap.update p (Obj.mapSeq (·.setIfInBounds j u)) } :=
  I.lstUpd hp ho (m4 its n j u) (r.set rv j) (by rw [Jt];exact hz) s.toks
 by_cases h0 : 0≤k
 ·have hk:k.toNat=j:=by
   rw [seqIndex_of h0 h4] at h1
   exact Option.some.inj h1
  exact PySem.W.ki_setAt ho h0 (by omega) (by rw [Jk,← hl];exact h4) (by rw [hk];exact ⟨_,I',q⟩)
 ·have hk:(k+(its.toArray.size:Int)).toNat=j:=by
   rw [seqIndex_neg (by omega) h3] at h1
   rw [Jk,← hl]
   exact Option.some.inj h1
  exact PySem.W.ki_setBack ho (by omega) (by rw [Jk,← hl];exact h3) (by omega) (by rw [hk];exact ⟨_,I',q⟩)
theorem kU (lo hi:Option Int) (n:Nat) : (sliceBounds lo hi none n).1=((HT.sIx n 0 lo:Nat) : Int)∧(sliceBounds lo hi none n).2.1=((HT.sIx n n hi:Nat) : Int)∧(sliceBounds lo hi none n).2.2=1:=by
 refine ⟨?_,?_,rfl⟩
 ·cases lo with
  | none=>simp [sliceBounds,HT.sIx]
  | some i =>
   simp only [sliceBounds,HT.sIx,Option.getD_none,show (1:Int) > 0 by decide,if_true]
   by_cases h:i<0
   ·simp only [h,if_true] <;> omega
   ·simp only [h,if_false] <;> omega
 ·cases hi with
  | none=>simp [sliceBounds,HT.sIx]
  | some i =>
   simp only [sliceBounds,HT.sIx,Option.getD_none,show (1:Int) > 0 by decide,if_true]
   by_cases h:i<0
   ·simp only [h,if_true] <;> omega
   ·simp only [h,if_false] <;> omega
theorem jU (its:List Value) (lo hi:Option Int) : slicePick its.toArray lo hi none=((its.drop (HT.sIx its.length 0 lo)).take (HT.sIx its.length its.length hi-HT.sIx its.length 0 lo)).toArray:=by
 obtain ⟨h1,h2,h3⟩:=kU lo hi its.toArray.size
 unfold slicePick
 rw [h1,h2,h3]
 simp only [sliceRange_one,pick_run,Jk] <;> rfl
def rSlL (K:Ay) : V→Option Int→Option Int→Hp→VK→Prop:=fun x lo hi H Q=>∃ a xs,x=.ref a∧SqL K H a xs∧∀ p,H p=none→Q (.ref p) (upd H p (.lst (ym xs lo hi)))
theorem kW:SlR X (rSlL X.K):=by
 intro pins s σ H x v vl vu lo hi sl Q I rx hs pl pu h
 obtain ⟨a,xs,rfl,hx,q⟩:=h
 cases rx
 obtain ⟨its,r,ht,hz⟩:=I.list hx
 have hlen:=r.length
 refine ⟨"list",_,slot_list_getitem.lookup,ht.isList.typeIs,?_⟩
 refine wpAny_getItem_list_slice ht.isList hs pl pu .none (by simp) ?_ (by rw [Jk] <;> omega)
 rw [jU,← hlen]
 refine ⟨.ref s.heap.objs.size,_,I.laid (t':=s.toks) (o:=.lst (ym xs lo hi)) (fun b ob q=>Jh _ q) (Jm _) ?_,rfl,q _ (I.hok.fresh (Jm _))⟩
 exact ⟨Ju (mh xs lo hi) hz,_,0,(r.drop (HT.sIx xs.length 0 lo)).take (HT.sIx xs.length xs.length hi-HT.sIx xs.length 0 lo),Heap.get?_push_size _ rfl⟩
def yi:V→Bool
 | .non=>true
 | .bl _=>true
 | .int _=>true
 | .str _=>true
 | _=>false
def eqV:V→V→Bool
 | .non,.non=>true
 | .bl a,.bl b=>a==b
 | .bl a,.int b=>(if a then 1 else 0)==b
 | .int a,.bl b=>a==(if b then 1 else 0)
 | .int a,.int b=>a==b
 | .str a,.str b=>a==b
 | _,_=>false
theorem vo {A:Around} {s:Shared} {y x:V} {u v:Value} (ry:RelV y u) (rx:RelV x v) (fy:yi y=true) (fx:yi x=true) : SeqAt.EqAt A s u v (eqV y x):=by
 cases y with
 | non =>
  cases ry
  cases x with
  | non=>cases rx;exact SeqAt.EqAt.same _
  | bl b=>cases rx;exact SeqAt.EqAt.none_bool b
  | int b=>obtain ⟨t,rfl⟩:=rx;exact SeqAt.EqAt.none_int b t
  | str b=>obtain ⟨t,rfl⟩:=rx;exact SeqAt.EqAt.none_str b t
  | _=>exact absurd (show false=true from fx) Jn
 | bl a =>
  cases ry
  cases x with
  | non=>cases rx;exact SeqAt.EqAt.bool_none a
  | bl b=>cases rx;exact SeqAt.EqAt.bool_bool a b
  | int b=>obtain ⟨t,rfl⟩:=rx;exact SeqAt.EqAt.bool_int a b t
  | str b=>obtain ⟨t,rfl⟩:=rx;exact SeqAt.EqAt.bool_str a b t
  | _=>exact absurd (show false=true from fx) Jn
 | int a =>
  obtain ⟨t',rfl⟩:=ry
  cases x with
  | non=>cases rx;exact SeqAt.EqAt.int_none a t'
  | bl b=>cases rx;exact SeqAt.EqAt.int_bool a t' b
  | int b=>obtain ⟨t,rfl⟩:=rx;exact SeqAt.EqAt.int_int a t' b t
  | str b=>obtain ⟨t,rfl⟩:=rx;exact SeqAt.EqAt.int_str a t' b t
  | _=>exact absurd (show false=true from fx) Jn
 | str a =>
  obtain ⟨t',rfl⟩:=ry
  cases x with
  | non=>cases rx;exact SeqAt.EqAt.str_none a t'
  | bl b=>cases rx;exact SeqAt.EqAt.str_bool a t' b
  | int b=>obtain ⟨t,rfl⟩:=rx;exact SeqAt.EqAt.str_int a t' b t
  | str b=>obtain ⟨t,rfl⟩:=rx;exact SeqAt.EqAt.str_str a t' b t
  | _=>exact absurd (show false=true from fx) Jn
 | _=>exact absurd (show false=true from fy) Jn
def eqU (x:V) (u:Value) : Bool:=match u with
 | .none=>eqV .non x
 | .bool b=>eqV (.bl b) x
 | .int i _=>eqV (.int i) x
 | .str z _=>eqV (.str z) x
 | _=>false
theorem qJ {x y:V} {u:Value} (r:RelV y u) (f:yi y=true) : eqU x u=eqV y x:=by
 cases y with
 | non=>cases r;rfl
 | bl b=>cases r;rfl
 | int i=>obtain ⟨t,rfl⟩:=r;rfl
 | str z=>obtain ⟨t,rfl⟩:=r;rfl
 | _=>exact absurd (show false=true from f) Jn
theorem kX {x:V} : ∀ {xs:List V} {us:List Value},Vals xs us→xs.all yi=true→us.any (eqU x)=xs.any fun y=>eqV y x
 | _,_,.nil,_=>rfl
 | y::xs,u::us,.cons r t,f=>by
  rw [List.all_cons,Yb] at f
  rw [List.any_cons,List.any_cons,qJ r f.1,kX t f.2]
theorem jm {A:Around} {s:Shared} {x:V} {v:Value} (rx:RelV x v) (fx:yi x=true) : ∀ {xs:List V} {us:List Value},Vals xs us→xs.all yi=true→∀ u∈us,SeqAt.EqAt A s u v (eqU x u)
 | _,_,.nil,_=>fun u hu=>by cases hu
 | y::xs,u::us,.cons r t,f=>fun u' hu=>by
  rw [List.all_cons,Yb] at f
  rcases List.mem_cons.mp hu with rfl | hu
  ·rw [qJ r f.1];exact vo r rx f.1 fx
  ·exact jm rx fx t f.2 u' hu
def inV (x:V) (xs:List V) : Bool:=xs.any fun y=>eqV y x
def rIn (K:Ay) (neg:Bool) : R2:=fun x y H Q=>∃ p xs,y=.ref p∧(SqL K H p xs∨SqT K H p xs)∧yi x=true∧xs.all yi=true∧Q (.bl (if neg then !inV x xs else inV x xs)) H
theorem j9:OpR X (compareOp .In) (rIn X.K false):=by
 intro pins s σ H x y v u Q I rx ry h
 obtain ⟨p,xs,rfl,hq,fx,fs,q⟩:=h
 cases ry
 rcases hq with hq | hq
 ·obtain ⟨its,r,pl,hz⟩:=I.list hq
  refine SeqAt.in_listAt (eqU x) pl.isList (fun w hw=>jm rx fx r fs w (by simpa using hw)) ⟨.bl _,H,I,rfl,?_⟩
  rw [show its.toArray.any (eqU x)=its.any (eqU x) by simp,kX r fs]
  exact q
 ·obtain ⟨its,r,pl,hz⟩:=I.tuple hq
  refine SeqAt.in_tupleAt (eqU x) pl (fun w hw=>jm rx fx r fs w (by simpa using hw)) ⟨.bl _,H,I,rfl,?_⟩
  rw [show its.toArray.any (eqU x)=its.any (eqU x) by simp,kX r fs]
  exact q
theorem aG:xU X (.builtin "len") (fun xs H Q=>∃ p ys,xs=[.ref p]∧(SqL X.K H p ys∨SqT X.K H p ys)∧Q (.int ys.length) H):=by
 intro pins s σ H xs us Q I r h
 obtain ⟨p,ys,rfl,hq,q⟩:=h
 obtain ⟨u,rfl,rx⟩:=vals1 r
 cases rx
 have hn:=yz
 rcases hq with hq | hq
 ·obtain ⟨its,r',pl,hz⟩:=I.list hq
  have hlen:=r'.length
  exact Calls.call_len_list pl.isList (by simp only [Jk] <;> omega) ⟨.int ys.length,H,I.tok _,⟨s.toks+1,by rw [Jk,hlen]⟩,q⟩
 ·obtain ⟨its,r',pl,hz⟩:=I.tuple hq
  have hlen:=r'.length
  exact len_tuple pl (by simp only [Jk] <;> omega) ⟨.int ys.length,H,I.tok _,⟨s.toks+1,by rw [Jk,hlen]⟩,q⟩
theorem bV:xU X (.type "list") (fun xs H Q=>∃ p ys,xs=[.ref p]∧(SqL X.K H p ys∨SqT X.K H p ys)∧∀ l,H l=none→Q (.ref l) (upd H l (.lst ys))):=by
 intro pins s σ H xs us Q I r h
 obtain ⟨p,ys,rfl,hq,q⟩:=h
 obtain ⟨u,rfl,rx⟩:=vals1 r
 cases rx
 have fin:∀ (its:List Value),Vals ys its→ys.length≤sizeLine→∀ (h':Heap) (c':Nat),(∀ b o',s.heap.get? b=some o'→h'.get? b=some o') →
   h'.get? s.heap.objs.size=some { cls:=.type "list",dict:=none,data:=.seq its.toArray c',slots:=#[] }→EP X pins σ Q (.ref s.heap.objs.size) { s with heap:=h' }:=fun its r' hz h' c' kp e =>
  ⟨.ref s.heap.objs.size,_,I.laid (t':=s.toks) kp (Jm _) (show wD X.prog X.w _ h' _ (.lst ys) from ⟨hz,its,c',r',e⟩),rfl,q _ (I.hok.fresh (Jm _))⟩
 rcases hq with hq | hq
 ·obtain ⟨its,r',pl,hz⟩:=I.list hq
  have hlen:=r'.length
  obtain ⟨o,ho,hc,n,hd⟩:=pl.isList
  exact call_list_seq p (.inl rfl) ho hc hd (fun h' c' kp e=>fin its r' hz h' c' kp e) (by simp only [Jk] <;> omega)
 ·obtain ⟨its,r',pl,hz⟩:=I.tuple hq
  have hlen:=r'.length
  obtain ⟨o,ho,hc,n,hd⟩:=pl
  exact call_list_seq p (.inr rfl) ho hc hd (fun h' c' kp e=>fin its r' hz h' c' kp e) (by simp only [Jk] <;> omega)
def tyV (K:Ay) (T:String) (x:V) (H:Hp) : Prop:=match x with
 | .str _=>T = "str"
 | .int _=>T = "int"
 | .ref p=>(T = "list" ∧ ∃ xs,SqL K H p xs)∨(T = "tuple" ∧ ∃ o,K.lookup p=some o∧o.cls=.type "tuple" ∧ o.dict=none) ∨
   (T = "dict" ∧ ((∃ kvs,H p=some (.dK kvs))∨∃ kvs,H p=some (.dT kvs)))∨(T = "set" ∧ ∃ S n,H p=some (.set S n))
 | _=>False
theorem qK {pins:List (Addr × Obj)} {σ:St} {H:Hp} {s:Shared} {T:String} {x:V} {v:Value} (I:Inv X pins σ H s) (r:RelV x v) (ty:tyV X.K T x H) :
  s.TypeIs v T∧∀ a,v=.ref a→∃ ob,s.heap.get? a=some ob∧ob.dict=none:=by
 cases x with
 | str z =>
  obtain ⟨t,rfl⟩:=r
  cases (show T = "str" from ty)
  exact ⟨typeIs_str s z t,fun _ e=>nomatch e⟩
 | int i =>
  obtain ⟨t,rfl⟩:=r
  cases (show T = "int" from ty)
  exact ⟨typeIs_int s i t,fun _ e=>nomatch e⟩
 | ref p =>
  cases r
  rcases ty with ⟨rfl,xs,hq⟩ | ⟨rfl,o,hk,hc,hd⟩ | ⟨rfl,hk⟩ | ⟨rfl,S,n,hk⟩
  ·obtain ⟨its,_,pl,_⟩:=I.list hq
   refine ⟨pl.isList.typeIs,fun a e=>?_⟩
   cases e
   obtain ⟨o,n,e,c,hd,_⟩:=pl
   exact ⟨o,e,hd⟩
  ·refine ⟨⟨o,I.kIn p o hk,hc⟩,fun a e=>?_⟩
   cases e
   exact ⟨o,I.kIn _ o hk,hd⟩
  ·have z:∃ o,s.heap.get? p=some o∧o.ExactDict:=by
    rcases hk with ⟨kvs,hk⟩ | ⟨kvs,hk⟩
    ·obtain ⟨_,_,_,_,o,_,_,e,ex,_⟩:=I.hok p _ hk
     exact ⟨o,e,ex⟩
    ·obtain ⟨_,_,_,_,o,_,_,e,ex,_⟩:=I.hok p _ hk
     exact ⟨o,e,ex⟩
   obtain ⟨o,e,ex⟩:=z
   refine ⟨⟨o,e,ex.1⟩,fun a e2=>?_⟩
   cases e2
   exact ⟨o,e,ex.2.1⟩
  ·obtain ⟨o,_,_,_,e,ex,_⟩:=I.hok p _ hk
   refine ⟨⟨o,e,ex.1⟩,fun a e2=>?_⟩
   cases e2
   exact ⟨o,e,ex.2.1⟩
 | _=>exact False.elim ty
def tBM0 (K:Ay) (T:String) (r:V→List V→Hp→VK→Prop) (to:TE) : TE:=fun σ H Q=>to σ H fun x H1=>tyV K T x H1∧r x [] H1 Q
def tBM (K:Ay) (T:String) (r:V→List V→Hp→VK→Prop) (to:TE) (t:TA) : TE:=fun σ H Q=>to σ H fun x H1=>tyV K T x H1∧t σ H1 fun xs H2=>r x xs H2 Q
variable {o e:Expr} {es:List Expr} {to:TE} {t:TA} {name:Str} {apos cpos:Pos} {T id:String} {r:V→List V→Hp→VK→Prop}
theorem vq (pa:PlainAttrs T) (slot:Slot T name id) (hty:typeOf (.builtin id)=pure (.type "method_descriptor")) (hm:MtR X id r) (ho:PE X o to)
  (hbase:attributeBase o name X.env (eval o X.env)=eval o X.env:=by rfl) (hline:(apos.endLine==cpos.line)=true:=by rfl) : PE X (.Call (.Attribute o name apos) [] [] cpos) (tBM0 X.K T r to):=by
 intro pins s σ H Q I h
 refine wpAny_Call_method0_late hbase hline (thn (ho pins s σ H _ I h) fun v s1 ⟨x,H1,I1,r1,ty,q1⟩=>?_)
 obtain ⟨h1,h2⟩:=qK I1 r1 ty
 exact ⟨T,id,pa,slot,hty,h1,h2,Calls.callWith_builtin rfl (PySem.evalArgs_none (hm pins s1 σ H1 x [] v [] Q I1 r1 .nil q1))⟩
theorem bP (pa:PlainAttrs T) (slot:Slot T name id) (hty:typeOf (.builtin id)=pure (.type "method_descriptor")) (hm:MtR X id r) (ho:PE X o to) (ha:PA X (e::es) t)
  (hbase:attributeBase o name X.env (eval o X.env)=eval o X.env:=by rfl)
  (hfew:((backTo cpos (starEach (e::es) X.env)).all (fun x=>!x.1) && (backToKw cpos (keywordEach [] X.env)).all (fun x=>x.1.isSome)
   && decide ((e::es).length+([] : List Keyword).length+(if ([] : List Keyword).isEmpty then 0 else 1)<30))=true:=by rfl)
  (hline:(apos.endLine==cpos.line)=true:=by rfl) (hs:starEach (e::es) X.env=(false,eval e X.env)::starEach es X.env:=by rfl) (hplain:(backTo cpos (starEach es X.env)).any (·.1)=false:=by rfl) :
  PE X (.Call (.Attribute o name apos) (e::es) [] cpos) (tBM X.K T r to t):=by
 intro pins s σ H Q I h
 refine wpAny_Call_method_late hbase hfew hline rfl (thn (ho pins s σ H _ I h) fun v s1 ⟨x,H1,I1,r1,ty,q1⟩=>?_)
 obtain ⟨h1,h2⟩:=qK I1 r1 ty
 refine ⟨T,id,pa,slot,hty,h1,h2,?_⟩
 have hA:=ha cpos pins s1 σ H1 _ I1 q1
 rw [hs] at hA ⊢
 refine Calls.callWith_builtin (by show (false || (backTo cpos (starEach es X.env)).any (·.1))=false;rw [hplain] <;> rfl) (Calls.evalArgs_plain ?_)
 exact thn hA fun us s2 ⟨vs,H2,I2,r2,q2⟩=>hm pins s2 σ H2 x vs v us Q I2 r1 r2 q2
end
end L2
namespace L2
open PySem PySem.Spec PyProof.Rows
def MtM (X:Cx) (id:String) (r:V→List V→Hp→VK→Prop) : Prop :=
 ∀ (pins:List (Addr × Obj)) (s:Shared) (σ:St) (H:Hp) (x:V) (xs:List V) (v:Value) (us:List Value) (Q:VK),Inv X pins σ H s→RelV x v→Vals xs us→r x xs H Q →
  wpAny (model X.prog X.w) X.A (call (.builtin id) (v::us)) (EP X pins σ Q) X.xe s
theorem Vals.one:∀ {x:V} {us:List Value},Vals [x] us→∃ u,us=[u]∧RelV x u
 | _,_,.cons r .nil=>⟨_,rfl,r⟩
theorem Vals.zero:∀ {us:List Value},Vals [] us→us=[]
 | _,.nil=>rfl
theorem Vals.dropLast {xs:List V} {us:List Value} (h:Vals xs us) : Vals xs.dropLast us.dropLast:=by
 induction h with
 | nil=>exact .nil
 | cons r t ih =>
  cases t with
  | nil=>exact .nil
  | cons q t'=>exact .cons r ih
theorem Vals.eraseIdx:∀ {xs:List V} {us:List Value} (i:Nat),Vals xs us→Vals (xs.eraseIdx i) (us.eraseIdx i)
 | _,_,_,.nil=>.nil
 | _,_,0,.cons _ t=>t
 | _,_,i+1,.cons r t=>.cons r (Vals.eraseIdx i t)
theorem m5 {α:Type} (l:List α) : l.eraseIdx (l.length-1)=l.dropLast:=by
 induction l with
 | nil=>rfl
 | cons a r ih =>
  cases r with
  | nil=>rfl
  | cons b r =>
   have e:(a::b::r).length-1=((b::r).length-1)+1:=by
    have h1:(a::b::r).length=r.length+2:=rfl
    have h2:(b::r).length=r.length+1:=rfl
    omega
   rw [e,List.eraseIdx_cons_succ,ih]
   all_goals rfl
theorem ka {α:Type} : ∀ (l:List α) (i:Nat),(l.eraseIdx i).length≤l.length
 | [],_=>Jm _
 | _::_,0=>Nat.le_succ _
 | _::r,i+1=>Nat.succ_le_succ (ka r i)
section
variable {X:Cx} {pins:List (Addr × Obj)} {σ:St} {H:Hp} {s:Shared} {l b:Addr} {xs ys zs:List V}
theorem Inv.lset {its its':List Value} {n:Nat} {f:Array Value→Array Value} {t':Nat} (I:Inv X pins σ H s) (hH:H l=some (.lst xs))
  (e:s.heap.get? l=some { cls:=.type "list",data:=.seq its.toArray n }) (hf:f its.toArray=its'.toArray) (hv:Vals ys its') (hz:ys.length≤sizeLine) :
  Inv X pins σ (upd H l (.lst ys)) { s with heap:=s.heap.update l (Obj.mapSeq f),toks:=t' }:=by
 have q:=PySem.IsL.update e f
 rw [hf] at q
 refine I.write (x:=l) (e:=l) (by rw [hH];exact trivial) (.inl rfl) (fun b' u hb hu=>(Heap.get?_update_other s.heap (Obj.mapSeq f) (Ne.symm hb)).trans hu) ⟨_,q⟩ ?_
 exact ⟨hz,its',_,hv,q⟩
theorem Inv.lnew {its:List Value} {t':Nat} (I:Inv X pins σ H s) (hv:Vals ys its) (hz:ys.length≤sizeLine) :
  Inv X pins σ (upd H s.heap.objs.size (.lst ys)) { s with heap:=s.heap.push { cls:=.type "list",data:=.seq its.toArray },toks:=t' } :=
 I.laid (fun _ _ q=>Jh _ q) (Jm _) ⟨hz,its,0,hv,Heap.get?_push_size _ rfl⟩
theorem Inv.fresh (I:Inv X pins σ H s) : H s.heap.objs.size=none:=I.hok.fresh (Jm _)
theorem Inv.yY (I:Inv X pins σ H s) (hH:H l=some (.lst xs)) : xs.length≤sizeLine∧∃ (its:List Value) (n:Nat),Vals xs its∧xs.length=its.length∧s.heap.get? l=some { cls:=.type "list",data:=.seq its.toArray n }:=by
 obtain ⟨z,its,n,r,e⟩:=I.hok l _ hH
 exact ⟨z,its,n,r,r.length,e⟩
theorem notLongL {n:Nat} (h:n≤sizeLine) : Builtin.List.listTooLong n=false:=by
 unfold Builtin.List.listTooLong
 exact Js (by omega)
end
section
variable {X:Cx}
def rAppend:V→List V→Hp→VK→Prop:=fun x vs H Q=>∃ l xs y,x=.ref l∧vs=[y]∧H l=some (.lst xs)∧xs.length<sizeLine∧Q .non (upd H l (.lst (xs++[y])))
theorem aX:MtM X "list.append" rAppend:=by
 intro pins s σ H x vs v us Q I rx rv h
 obtain ⟨l,xs,y,rfl,rfl,hH,hz,q⟩:=h
 cases rx
 obtain ⟨u,rfl,ru⟩:=rv.one
 obtain ⟨z,its,n,r,hl,e⟩:=I.yY hH
 refine call_meets F.slot_list_append ⟨_,e,rfl⟩ F.entry_list_append (F.args_list_append_2 _ _) (PySem.list_append l its.toArray n u (by rw [Jk];omega)) ⟨e,?_⟩
 refine ⟨.non,_,I.lset (its':=its++[u]) hH e (by simp) (r.append (.cons ru .nil)) ?_,rfl,q⟩
 rw [Jc,Jo]
 omega
def rExtend:V→List V→Hp→VK→Prop:=fun x vs H Q=>∃ l b xs zs,x=.ref l∧vs=[.ref b]∧H l=some (.lst xs)∧H b=some (.lst zs)∧xs.length+zs.length≤sizeLine∧Q .non (upd H l (.lst (xs++zs)))
theorem oY:MtM X "list.extend" rExtend:=by
 intro pins s σ H x vs v us Q I rx rv h
 obtain ⟨l,b,xs,zs,rfl,rfl,hH,hB,hz,q⟩:=h
 cases rx
 obtain ⟨u,rfl,ru⟩:=rv.one
 cases ru
 obtain ⟨z,its,n,r,hl,e⟩:=I.yY hH
 obtain ⟨z2,its2,n2,r2,hl2,e2⟩:=I.yY hB
 have hsz:its.toArray.size+its2.toArray.size≤sizeLine:=by rw [Jk,Jk];omega
 have hlong:¬ (!its.toArray.isEmpty && Builtin.List.listTooLong (its.toArray.size+its2.toArray.size))=true:=by
  rw [notLongL hsz,Bool.and_false]
  exact Jn
 refine call_meets F.slot_list_extend ⟨_,e,rfl⟩ F.entry_list_extend (F.args_list_extend_2 _ _)
  (AutoSeq1.list_extend_list_list_0 l its.toArray n b its2.toArray n2 hlong (by rw [Jk];omega) (by omega)) ⟨e,e2,?_⟩
 refine ⟨.non,_,I.lset (its':=its++its2) hH e (by simp) (r.append r2) ?_,rfl,q⟩
 rw [Jc]
 omega
def rPop:V→List V→Hp→VK→Prop:=fun x vs H Q=>∃ l xs y,x=.ref l∧vs=[]∧H l=some (.lst xs)∧xs[xs.length-1]? = some y∧Q y (upd H l (.lst xs.dropLast))
theorem vt:MtM X "list.pop" rPop:=by
 intro pins s σ H x vs v us Q I rx rv h
 obtain ⟨l,xs,y,rfl,rfl,hH,hy,q⟩:=h
 cases rx
 have hus:=rv.zero
 subst hus
 obtain ⟨z,its,n,r,hl,e⟩:=I.yY hH
 obtain ⟨u,hu,ru⟩:=r.get hy
 have hy':its.toArray[its.toArray.size-1]? = some u:=by
  show its.toArray[its.length-1]? = some u
  rw [← Array.getElem?_toList,← hl]
  exact hu
 refine call_meets F.slot_list_pop ⟨_,e,rfl⟩ F.entry_list_pop (F.args_list_pop_1 _) (MeetsSeq.list_pop_last l its.toArray n u hy' (by rw [Jk];omega)) ⟨e,?_⟩
 refine ⟨y,_,I.lset (its':=its.dropLast) hH e ?_ r.dropLast ?_,ru,q⟩
 ·show its.toArray.eraseIdxIfInBounds (its.toArray.size-1)=its.dropLast.toArray
  rw [Jk,List.eraseIdxIfInBounds_toArray,m5]
 ·rw [List.length_dropLast]
  omega
def rPopAt:V→List V→Hp→VK→Prop:=fun x vs H Q=>∃ l xs i k y,x=.ref l∧vs=[.int i]∧H l=some (.lst xs) ∧ -(2 ^ 63)≤i∧i<2 ^ 63∧seqIndex? i xs.length=some k∧xs[k]? = some y∧Q y (upd H l (.lst (xs.eraseIdx k)))
theorem qL:MtM X "list.pop" rPopAt:=by
 intro pins s σ H x vs v us Q I rx rv h
 obtain ⟨l,xs,i,k,y,rfl,rfl,hH,h1,h2,hk,hy,q⟩:=h
 cases rx
 obtain ⟨u,rfl,ru⟩:=rv.one
 obtain ⟨t,rfl⟩:=ru
 obtain ⟨z,its,n,r,hl,e⟩:=I.yY hH
 obtain ⟨w,hw,rw'⟩:=r.get hy
 refine call_meets F.slot_list_pop ⟨_,e,rfl⟩ F.entry_list_pop (F.args_list_pop_2 _ _)
  (MeetsSeq.list_pop_at l its.toArray n i t k w (fitsIndex_both h1 h2) (by rw [Jk,← hl];exact hk) (by rw [← Array.getElem?_toList];exact hw) (by rw [Jk];omega)) ⟨e,?_⟩
 refine ⟨y,_,I.lset (its':=its.eraseIdx k) hH e ?_ (r.eraseIdx k) ?_,rw',q⟩
 ·show its.toArray.eraseIdxIfInBounds k=(its.eraseIdx k).toArray
  rw [List.eraseIdxIfInBounds_toArray]
 ·have:=ka xs k
  omega
def rCat:R2:=fun x y H Q=>∃ l b xs zs,x=.ref l∧y=.ref b∧H l=some (.lst xs)∧H b=some (.lst zs)∧xs.length+zs.length≤sizeLine∧∀ p,H p=none→Q (.ref p) (upd H p (.lst (xs++zs)))
theorem vv:OpR X (binaryOp .Add) rCat:=by
 intro pins s σ H x y v u Q I rx ry h
 obtain ⟨l,b,xs,zs,rfl,rfl,hH,hB,hz,q⟩:=h
 cases rx
 cases ry
 obtain ⟨z,its,n,r,hl,e⟩:=I.yY hH
 obtain ⟨z2,its2,n2,r2,hl2,e2⟩:=I.yY hB
 refine PySem.P.add_list e e2 ?_ (by rw [Jk,Jk];omega)
 have ea:its.toArray++its2.toArray=(its++its2).toArray:=by simp
 rw [ea]
 exact ⟨.ref _,_,I.lnew (t':=s.toks) (r.append r2) (by rw [Jc];omega),rfl,q _ I.fresh⟩
end
section
variable {prog:Program} {w:World} {A:Around} {E:Value→Shared→Prop} {s:Shared}
end
section
variable {X:Cx}
end
end L2
namespace L2
open PySem PySem.Spec PyProof.Rows
section
variable {κ:Type} [DecidableEq κ]
def xM (kvs:List (κ × V)) (k : κ) : Option V:=(kvs.find? fun kv=>decide (kv.1=k)).map (·.2)
def putK (kvs:List (κ × V)) (k : κ) (v:V) : List (κ × V) :=
 if (kvs.any fun kv=>decide (kv.1=k))=true then kvs.map (fun kv=>if kv.1=k then (kv.1,v) else kv) else kvs++[(k,v)]
theorem d5 {p : κ × V} {r:List (κ × V)} {k : κ} (e:p.1=k) : xM (p::r) k=some p.2:=by simp [xM,List.find?_cons,e]
theorem cV {p : κ × V} {r:List (κ × V)} {k : κ} (e:¬ p.1=k) : xM (p::r) k=xM r k:=by simp [xM,List.find?_cons,e]
theorem jn (k : κ) : ∀ kvs:List (κ × V),(kvs.any fun kv=>decide (kv.1=k))=(xM kvs k).isSome
 | []=>rfl
 | p::r=>by
  rw [List.any_cons]
  by_cases e:p.1=k
  ·simp only [d5 e,Je e,Bool.true_or,Option.isSome_some]
  ·rw [cV e,Js e,Bool.false_or];exact jn k r
theorem fE (kvs:List (κ × V)) (k : κ) (v:V) : (putK kvs k v).length≤kvs.length+1:=by
 unfold putK
 split
 ·rw [J9];omega
 ·rw [Jc,Jy,List.length_nil];omega
theorem xw.oZ {o:Option V} {u:Option Value} (r:xw o u) : o.isSome=u.isSome:=by
 cases o with
 | none=>cases u with
  | none=>rfl
  | some _=>exact (show False from r).elim
 | some _=>cases u with
  | none=>exact (show False from r).elim
  | some _=>rfl
theorem KV.val {kvs:List (κ × V)} {vs:List (κ × Value)} (r:KV kvs vs) (k : κ) : xw (xM kvs k) (valueAt vs k):=by
 unfold KV at r
 induction r with
 | nil=>exact True.intro
 | @cons p q ps qs h t ih =>
  obtain ⟨h1,h2⟩:=h
  by_cases e:p.1=k
  ·have e':q.1=k:=h1.symm.trans e
   have b:valueAt (q::qs) k=some q.2:=by simp [valueAt,List.find?_cons,e']
   rw [d5 e,b];exact h2
  ·have e':¬ q.1=k:=fun z=>e (h1.trans z)
   have b:valueAt (q::qs) k=valueAt qs k:=by simp [valueAt,List.find?_cons,e']
   rw [cV e,b];exact ih
theorem KV.any {kvs:List (κ × V)} {vs:List (κ × Value)} (r:KV kvs vs) (k : κ) : (kvs.any fun kv=>decide (kv.1=k))=vs.any fun kv=>decide (kv.1=k):=by
 unfold KV at r
 induction r with
 | nil=>rfl
 | cons h t ih=>rw [List.any_cons,List.any_cons,ih,h.1]
theorem KV.repl {kvs:List (κ × V)} {vs:List (κ × Value)} (r:KV kvs vs) (k : κ) {y:V} {u:Value} (ry:RelV y u) :
  KV (kvs.map fun kv=>if kv.1=k then (kv.1,y) else kv) (vs.map fun kv=>if kv.1=k then (kv.1,u) else kv):=by
 unfold KV at r ⊢
 induction r with
 | nil=>exact .nil
 | @cons p q ps qs h t ih =>
  rw [List.map_cons,List.map_cons]
  refine .cons ?_ ih
  obtain ⟨h1,h2⟩:=h
  by_cases e:p.1=k
  ·rw [J3 e,J3 (h1.symm.trans e)];exact ⟨h1,ry⟩
  ·rw [J0 e,J0 (fun z=>e (h1.trans z))];exact ⟨h1,h2⟩
theorem KV.put {kvs:List (κ × V)} {vs:List (κ × Value)} (r:KV kvs vs) (k : κ) {y:V} {u:Value} (ry:RelV y u) : KV (putK kvs k y) (stored vs k u):=by
 unfold putK stored
 rw [r.any k]
 by_cases e:(vs.any fun kv=>decide (kv.1=k))=true
 ·rw [J3 e,J3 e];exact r.repl k ry
 ·rw [J0 e,J0 e];exact Paired.snoc r ⟨rfl,ry⟩
theorem KV.length {kvs:List (κ × V)} {vs:List (κ × Value)} (r:KV kvs vs) : kvs.length=vs.length:=Paired.length r
end
theorem oo {P:Program} {w:World} {k:Key} {u:Value} (r:RelV (kV k) u) : (wM P w).is k u=true:=by
 cases k with
 | inl i=>obtain ⟨t,e⟩:=(show ∃ t,u=Value.int i t from r);subst e;exact lW P w i t
 | inr x=>obtain ⟨t,e⟩:=(show ∃ t,u=Value.str x t from r);subst e;exact lX P w x t
theorem kb {P:Program} {w:World} : ∀ {ks:List Key} {us:List Value},Vals (ks.map kV) us→ItemsAre (wM P w) ks us
 | [],_,r=>by rw [List.map_nil] at r;cases r;exact .nil
 | k::ks,_,r=>by
  rw [List.map_cons] at r
  cases r with
  | cons h t=>exact .cons (oo h) (kb t)
abbrev KT (H:Hp) : List (List Key × V)→List (List Key × Addr × Value)→Prop:=Paired fun p q=>p.1=q.1∧H q.2.1=some (.tup (p.1.map kV))∧RelV p.2 q.2.2
theorem KT.val {H:Hp} {kvs:List (List Key × V)} {xs:List (List Key × Addr × Value)} (r:KT H kvs xs) (k:List Key) : xw (xM kvs k) ((atKey xs k).map (·.2)):=by
 induction r with
 | nil=>exact True.intro
 | @cons p q ps qs h t ih =>
  obtain ⟨h1,_,h2⟩:=h
  by_cases e:p.1=k
  ·have e':q.1=k:=h1.symm.trans e
   have b:atKey (q::qs) k=some q.2:=by simp [atKey,List.find?_cons,e']
   rw [d5 e,b];exact h2
  ·have e':¬ q.1=k:=fun z=>e (h1.trans z)
   have b:atKey (q::qs) k=atKey qs k:=by simp [atKey,List.find?_cons,e']
   rw [cV e,b];exact ih
theorem KT.repl {H:Hp} {kvs:List (List Key × V)} {xs:List (List Key × Addr × Value)} (r:KT H kvs xs) (k:List Key) {y:V} {u:Value} (ry:RelV y u) :
  KT H (kvs.map fun kv=>if kv.1=k then (kv.1,y) else kv) (xs.map (putAt k u)):=by
 induction r with
 | nil=>exact .nil
 | @cons p q ps qs h t ih =>
  rw [List.map_cons,List.map_cons]
  refine .cons ?_ ih
  obtain ⟨h1,h2,h3⟩:=h
  unfold putAt
  by_cases e:p.1=k
  ·rw [J3 e,J3 (h1.symm.trans e)];exact ⟨h1,h2,ry⟩
  ·rw [J0 e,J0 (fun z=>e (h1.trans z))];exact ⟨h1,h2,h3⟩
theorem KT.put {H:Hp} {kvs:List (List Key × V)} {xs:List (List Key × Addr × Value)} (r:KT H kvs xs) (k:List Key) {b:Addr} {y:V} {u:Value} (hb:H b=some (.tup (k.map kV))) (ry:RelV y u) :
  KT H (putK kvs k y) (storedH xs k b u):=by
 have e:(kvs.any fun kv=>decide (kv.1=k))=(atKey xs k).isSome:=by
  rw [jn,(r.val k).oZ,Option.isSome_map]
 unfold putK storedH
 rw [e]
 by_cases q:(atKey xs k).isSome=true
 ·rw [J3 q,J3 q];exact r.repl k ry
 ·rw [J0 q,J0 q];exact Paired.snoc r ⟨rfl,hb,ry⟩
theorem KT.keeps {H H':Hp} {kvs:List (List Key × V)} {xs:List (List Key × Addr × Value)} (r:KT H kvs xs) (ht:∀ b ys,H b=some (.tup ys)→H' b=some (.tup ys)) : KT H' kvs xs :=
 Paired.mapP r fun _ _ z=>⟨z.1,ht _ _ z.2.1,z.2.2⟩
section
variable {P:Program} {w:World} {H:Hp} {h:Heap} {a:Addr}
theorem uX {u:HO} (ok:HOk P w H h) (e:Rd H a u) : wD P w H h a u:=e.ok ok
theorem qM {kvs:List (Key × V)} (ok:HOk P w H h) (e:Rd H a (.dK kvs)) : kvs.length≤sizeLine∧(a==sysModules)=false∧∃ vs,KV kvs vs∧h.DictOf (wM P w) a vs :=
 show wD P w H h a (.dK kvs) from uX ok e
theorem uY {kvs:List (Key × V)} (ok:HOk P w H h) (e:H a=some (.dK kvs)) : kvs.length≤sizeLine∧(a==sysModules)=false∧∃ vs,KV kvs vs∧h.DictOf (wM P w) a vs:=qM ok (.inl e)
theorem m6 {ks:List Key} (ok:HOk P w H h) (e:H a=some (.tup (ks.map kV))) : (tupleKind (wM P w)).is h ks a:=by
 obtain ⟨_,its,r,o,h1,h2,n,h3⟩:=(show wD P w H h a (.tup (ks.map kV)) from ok a _ e)
 exact ⟨o,its.toArray,n,h1,h2,h3,by simpa using kb r⟩
theorem qN {kvs:List (List Key × V)} (ok:HOk P w H h) (e:Rd H a (.dT kvs)) : kvs.length≤sizeLine∧(a==sysModules)=false ∧
  ∃ xs,KT H kvs xs∧h.DictOfH (tupleKind (wM P w)) a xs:=by
 obtain ⟨z,y,xs,r,o,es,ep,h1,h2,h3,h4,h5⟩:=(show wD P w H h a (.dT kvs) from uX ok e)
 refine ⟨z,y,xs,r,o,es,ep,h1,h2,h3,h4,fun x hx=>?_,h5⟩
 have all:∀ {l:List (List Key × V)} {m:List (List Key × Addr × Value)},KT H l m→∀ x∈m,(tupleKind (wM P w)).is h x.1 x.2.1:=by
  intro l m q
  induction q with
  | nil=>intro x hx;exact nomatch hx
  | @cons p q ps qs hq t ih =>
   intro x hx
   rcases List.mem_cons.mp hx with e | hx
   ·subst e
    exact m6 ok (by rw [← hq.1];exact hq.2.1)
   ·exact ih x hx
 exact all r x hx
theorem dt_of {kvs:List (List Key × V)} (ok:HOk P w H h) (e:H a=some (.dT kvs)) : kvs.length≤sizeLine∧(a==sysModules)=false ∧
  ∃ xs,KT H kvs xs∧h.DictOfH (tupleKind (wM P w)) a xs:=qN ok (.inl e)
end
def x3 (H:Hp) (a:Addr) (y:V) (r:Option V) : Prop :=
 (∃ kvs k,Rd H a (.dK kvs)∧y=kV k∧r=xM kvs k)∨∃ kvs k b,Rd H a (.dT kvs)∧y=.ref b∧H b=some (.tup (k.map kV))∧r=xM kvs k
def As (H:Hp) (a:Addr) (y v:V) (H':Hp) : Prop :=
 (∃ kvs k,H a=some (.dK kvs)∧y=kV k∧kvs.length<sizeLine∧H'=upd H a (.dK (putK kvs k v))) ∨
 ∃ kvs k b,H a=some (.dT kvs)∧y=.ref b∧H b=some (.tup (k.map kV))∧kvs.length<sizeLine∧H'=upd H a (.dT (putK kvs k v))
theorem x3.k {H:Hp} {a:Addr} {kvs:List (Key × V)} {k:Key} (e:H a=some (.dK kvs)) : x3 H a (kV k) (xM kvs k):=.inl ⟨kvs,k,.inl e,rfl,rfl⟩
theorem As.k {H:Hp} {a:Addr} {kvs:List (Key × V)} {k:Key} {v:V} (e:H a=some (.dK kvs)) (hl:kvs.length<sizeLine) : As H a (kV k) v (upd H a (.dK (putK kvs k v))):=.inl ⟨kvs,k,e,rfl,hl,rfl⟩
section
variable {X:Cx} {pins:List (Addr × Obj)} {σ:St} {H:Hp} {s:Shared} {a:Addr} {y v:V} {u r:Value} {o:Option V} {A:Around} {E:Value→Shared→Prop}
theorem Inv.big (I:Inv X pins σ H s) : sysModules<s.heap.objs.size:=by
 have h:mainGlobals<s.heap.objs.size:=(I.mod.glob.keeps I.bk).lt
 exact Nat.lt_trans (by decide) h
theorem o3 {Q:Value→Shared→Prop} (hu:A.units+1<cLine) (I:Inv X pins σ H s) (g:x3 H a y (some v)) (ry:RelV y u) (h:∀ w' s',Inv X pins σ H s'→RelV v w'→Q w' s') :
  wpAny (model X.prog X.w) A (getItem (.ref a) u) Q E s:=by
 rcases g with ⟨kvs,k,e,ey,l⟩ | ⟨kvs,k,b,e,ey,eb,l⟩
 ·subst ey
  obtain ⟨z,hd,vs,rel,dd⟩:=qM I.hok e
  obtain ⟨w',hw,rw'⟩:=xw.some_of (v:=v) (o:=valueAt vs k) (by rw [l];exact rel.val k)
  exact wpAny_getItem_of (oo ry) dd.mapOf hw (h w' _ (I.tok _) rw')
 ·subst ey
  cases (show u=Value.ref b from ry)
  obtain ⟨z,hd,xs,rel,dd⟩:=qN I.hok e
  obtain ⟨w',hw,rw'⟩:=xw.some_of (v:=v) (o:=(atKey xs k).map (·.2)) (by rw [l];exact rel.val k)
  obtain ⟨p,hp,hp2⟩:=Option.map_eq_some_iff.mp hw
  refine wpAny_getItem_heap (tupleKind_room_in1 hu) (m6 I.hok eb) dd hp ?_
  rw [hp2]
  exact h w' _ (I.tok _) rw'
theorem kY {h':Heap} {t':Nat} {ob:HO} (I:Inv X pins σ H s) (mu:Mut (H a)) (hs:Heap.SameBut a s.heap h') (he:∃ q,h'.get? a=some q) (new:wD X.prog X.w (upd H a ob) h' a ob) :
  Inv X pins σ (upd H a ob) { s with heap:=h',toks:=t' } :=
 I.write (x:=a) (e:=a) mu (.inl rfl) (fun b q hb z=>(hs.2 b hb).trans z) he new
theorem qO {P:Program} {w:World} {H':Hp} {h':Heap} {kvs:List (Key × V)} {vs:List (Key × Value)} (z:kvs.length≤sizeLine) (hd:(a==sysModules)=false) (rel:KV kvs vs) (dd:h'.DictOf (wM P w) a vs) :
  wD P w H' h' a (.dK kvs):=⟨z,hd,vs,rel,dd⟩
theorem o4 {H':Hp} {Q:Unit→Shared→Prop} (hu:A.units+1<cLine) (I:Inv X pins σ H s) (g:As H a y v H') (ry:RelV y u) (rv:RelV v r) (h:∀ s',Inv X pins σ H' s'→Q () s') :
  wpAny (model X.prog X.w) A (setItem (.ref a) u r) Q E s:=by
 rcases g with ⟨kvs,k,e,ey,l,eH⟩ | ⟨kvs,k,b,e,ey,eb,l,eH⟩
 ·subst ey eH
  obtain ⟨z,hd,vs,rel,dd⟩:=uY I.hok e
  have hz:vs.length≤sizeLine:=by rw [← rel.length];exact z
  have hl:(putK kvs k v).length≤sizeLine:=by have:=fE kvs k v;omega
  refine wpAny_setItem_pairs (hsz:=hz) (oo ry) dd fun h' dd' hs=>h _ ?_
  have he:∃ q,h'.get? a=some q:=let ⟨q,_,_,hq,_⟩:=dd';⟨q,hq⟩
  exact kY I (by rw [e];exact True.intro) hs he (qO hl hd (rel.put k rv) dd')
 ·subst ey eH
  cases (show u=Value.ref b from ry)
  obtain ⟨z,hd,xs,rel,dd⟩:=dt_of I.hok e
  have hz:xs.length≤sizeLine:=by rw [← Paired.length rel];exact z
  have hl:(putK kvs k v).length≤sizeLine:=by have:=fE kvs k v;omega
  refine wpAny_setItem_heap (hsz:=hz) (tupleKind_room_in1 hu) (m6 I.hok eb) dd fun h' dd' hs=>h _ ?_
  obtain ⟨q,es,ep,hq,h2,h3,h4,_,h5⟩:=dd'
  refine kY I (by rw [e];exact True.intro) hs ⟨q,hq⟩ ⟨hl,hd,_,(rel.put k eb rv).keeps fun c ys ec=>?_,q,es,ep,hq,h2,h3,h4,h5⟩
  rw [ao (bS ec e (fun z=>nomatch z))]
  exact ec
end
section
variable {X:Cx} {pins:List (Addr × Obj)} {σ:St} {H:Hp} {s:Shared} {a:Addr} {kvs:List (Key × V)} {k:Key} {u:Value} {A:Around} {E:Value→Shared→Prop}
end
def NoSl (i:Expr) : Prop:=∀ ov iv,subscripted i false ov iv=operate [ov,iv] (getItem ov iv)
theorem uh {prog:Program} {w:World} {A:Around} {E:Value→Shared→Prop} {s:Shared} {env:Env} {value slice:Expr} {pos:Pos} {T id:String} {Q:Value→Shared→Prop}
  (hl:typeLookup (.type T) "__getitem__" = pure (some (.builtin id))) (hs:NoSl slice)
  (h:wpAny (model prog w) A (eval value env) (fun o s₁=>wpAny (model prog w) A (eval slice env) (fun i s₂=>s₂.TypeIs o T∧wpAny (model prog w) A (getItem o i) Q E s₂) E s₁) E s) :
  wpAny (model prog w) A (eval (.Subscript value slice pos) env) Q E s:=by
 refine Subscript_ (wpAny_mono h (fun o s₁ h₁=>wpAny_mono h₁ (fun i s₂ h₂=>?_) fun _ _ x=>x) fun _ _ x=>x)
 obtain ⟨hT,h₂⟩:=h₂
 unfold subscriptTail
 refine Jf ?_
 rw [getitemInPython_of_ne hT.not_modules]
 refine Jf (wpAny_specialOf hT hl ?_)
 have fin:wpAny (model prog w) A (subscripted slice false o i) (fun r s₃=>wpAny (model prog w) A (letTemporaryGo value o r >>= fun _=>pure r) Q E s₃) E s₂:=by
  rw [hs o i]
  exact wpAny_operating (wpAny_mono h₂ (fun r s₃ h₃=>Jf (wpAny_letTemporaryGo (Y0 h₃))) fun _ _ x=>x)
 first
  | exact Y0 (Jf fin)
  | exact Jf (Y0 (Jf fin))
  | exact Jf fin
theorem mi {X:Cx} {pins:List (Addr × Obj)} {σ:St} {H:Hp} {s:Shared} {a:Addr} {y:V} {o:Option V} (I:Inv X pins σ H s) (g:x3 H a y o) : s.TypeIs (.ref a) "dict":=by
 rcases g with ⟨kvs,k,e,_,_⟩ | ⟨kvs,k,b,e,_,_,_⟩
 ·obtain ⟨_,_,vs,_,dd⟩:=qM I.hok e
  exact dd.typeIs
 ·obtain ⟨_,_,xs,_,dd⟩:=qN I.hok e
  exact dd.typeIs
def tDGet (td ty:TE) : TE:=fun σ H Q=>td σ H fun x H1=>ty σ H1 fun y H2=>∃ a v,x=.ref a∧x3 H2 a y (some v)∧Q v H2
def sDPut (td ty tv:TE) : TS:=fun D σ H=>tv σ H fun v H1=>td σ H1 fun x H2=>ty σ H2 fun y H3=>∃ a H4,x=.ref a∧As H3 a y v H4∧D.nx σ H4
section
variable {X:Cx} {o i e value:Expr} {pos pos' tpos:Pos} {td ty tv:TE}
theorem a8 (hu:X.A.units+1<cLine) (ho:PE X o td) (hi:PE X i ty) (hs:NoSl i) : PE X (.Subscript o i pos) (tDGet td ty):=by
 intro pins s σ H Q I h
 refine uh PySem.F.slot_dict_getitem.lookup hs (thn (ho pins s σ H _ I h) fun u s1 ⟨x,H1,I1,rx,q1⟩=>thn (hi pins s1 σ H1 _ I1 q1) fun iv s2 ⟨y,H2,I2,ry,a,v,ex,g,q2⟩=>?_)
 subst ex
 obtain rfl:u=Value.ref a:=rx
 exact ⟨mi I2 g,o3 hu I2 g ry fun w' s3 I3 rw'=>⟨v,H2,I3,rw',q2⟩⟩
theorem oq (hu:X.A.units+1<cLine) (ho:PE X o td) (hi:PE X i ty) (hv:PE X value tv) (hs:swapsWith value (some (.Subscript o i pos')) pos.line X.env=pure false) :
  PS X (.Assign [.Subscript o i pos'] value pos) (sDPut td ty tv):=by
 intro pins s σ H D I h
 refine wpAny_Assign_Subscript (thn (hv pins s σ H _ I h) fun r s1 ⟨v,H1,I1,rv,q1⟩=>thn (ho pins s1 σ H1 _ I1 q1) fun u s2 ⟨x,H2,I2,rx,q2⟩=>thn (hi pins s2 σ H2 _ I2 q2) fun iv s3 ⟨y,H3,I3,ry,a,H4,ex,g,q3⟩=>?_) hs
 subst ex
 obtain rfl:u=Value.ref a:=rx
 exact o4 hu I3 g ry rv fun s4 I4=>⟨σ,H4,I4,q3⟩
end
theorem qP {P:Program} {w:World} {H:Hp} (h:Heap) (hb:sysModules<h.objs.size) : wD P w H (h.push { cls:=.type "dict",data:=.dict #[] }) h.objs.size (.dK []) :=
 ⟨Nat.zero_le _,beq_eq_false_iff_ne.mpr (Ne.symm (Nat.ne_of_lt hb)),[],.nil,Heap.DictOf.new h⟩
section
variable {X:Cx} {pos:Pos}
end
def zO:List (TE × TE)→St→Hp→(List (V × V)→Hp→Prop)→Prop
 | [],_,H,Q=>Q [] H
 | (tk,tv)::r,σ,H,Q=>tk σ H fun x H1=>tv σ H1 fun y H2=>zO r σ H2 fun ps H3=>Q ((x,y)::ps) H3
abbrev VV:List (V × V)→List (Value × Value)→Prop:=Paired fun p q=>RelV p.1 q.1∧RelV p.2 q.2
def PPs (X:Cx) (pos:Pos) (keys:List (Option Expr)) (values:List Expr) (trs:List (TE × TE)) : Prop :=
 ∀ (pins:List (Addr × Obj)) (s:Shared) (σ:St) (H:Hp) (Q:List (V × V)→Hp→Prop),Inv X pins σ H s→zO trs σ H Q →
  wpAny (model X.prog X.w) X.A (evalPairs (pairTrees keys values X.env pos)) (fun vs s'=>∃ ps H',Inv X pins σ H' s'∧VV ps vs∧Q ps H') X.xe s
theorem ui {X:Cx} {pos:Pos} : PPs X pos [] [] []:=fun pins s σ H Q I h=>pairTrees_nil_walk ⟨[],H,I,.nil,h⟩
theorem gO {X:Cx} {pos:Pos} {k v:Expr} {ks:List (Option Expr)} {vs:List Expr} {tk tv:TE} {trs:List (TE × TE)} (hk:PE X k tk) (hv:PE X v tv) (hr:PPs X pos ks vs trs) :
  PPs X pos (some k::ks) (v::vs) ((tk,tv)::trs):=fun pins s σ H Q I h =>
 pairTrees_cons_walk (thn (hk pins s σ H _ I h) fun u s1 ⟨x,H1,I1,rx,q1⟩=>thn (hv pins s1 σ H1 _ I1 q1) fun w2 s2 ⟨y,H2,I2,ry,q2⟩ =>
  thn (hr pins s2 σ H2 _ I2 q2) fun ws s3 ⟨ps,H3,I3,rel,q3⟩=>⟨(x,y)::ps,H3,I3,.cons ⟨rx,ry⟩ rel,q3⟩)
def xN (kvs more:List (Key × V)) : List (Key × V):=more.foldl (fun acc kv=>putK acc kv.1 kv.2) kvs
theorem KV.merge:∀ {more:List (Key × V)} {rs:List (Key × Value)} {kvs:List (Key × V)} {vs:List (Key × Value)},KV more rs→KV kvs vs→KV (xN kvs more) (merged vs rs):=by
 intro more rs kvs vs r
 unfold KV at r
 induction r generalizing kvs vs with
 | nil=>intro q;exact q
 | @cons p q ps qs h t ih =>
  intro r0
  have e:KV (putK kvs p.1 p.2) (stored vs q.1 q.2):=by
   have:=r0.put p.1 h.2
   rw [← h.1];exact this
  exact ih e
theorem fX:∀ (more kvs:List (Key × V)),(xN kvs more).length≤kvs.length+more.length
 | [],kvs=>by show kvs.length≤kvs.length+0;omega
 | p::r,kvs=>by
  have h1:=fX r (putK kvs p.1 p.2)
  have h2:=fE kvs p.1 p.2
  show (xN (putK kvs p.1 p.2) r).length≤_
  rw [Jy];omega
theorem jo {P:Program} {w:World} : ∀ {kvs:List (Key × V)} {ws:List (Value × Value)},VV (kvs.map fun kv=>(kV kv.1,kv.2)) ws→∃ rs,Carries (wM P w) ws rs∧KV kvs rs
 | [],_,r=>by rw [List.map_nil] at r;cases r;exact ⟨[],True.intro,.nil⟩
 | p::kvs,_,r=>by
  rw [List.map_cons] at r
  cases r with
  | @cons a b as bs h t =>
   obtain ⟨rs,c,q⟩:=jo (P:=P) (w:=w) t
   obtain ⟨b1,b2⟩:=b
   exact ⟨(p.1,b2)::rs,⟨oo h.1,rfl,c⟩,.cons ⟨rfl,h.2⟩ q⟩
def tDisp (trs:List (TE × TE)) : TE:=fun σ H Q=>∀ p,H p=none→zO trs σ (upd H p (.dK [])) fun ps H2=>H2 p=some (.dK [])∧∃ kvs:List (Key × V),ps=kvs.map (fun kv=>(kV kv.1,kv.2))∧kvs.length≤15∧Q (.ref p) (upd H2 p (.dK (xN [] kvs)))
theorem uj {X:Cx} {pos:Pos} {keys:List (Option Expr)} {values:List Expr} {trs:List (TE × TE)} (h:PPs X pos keys values trs) (hall:keys.all (·.isSome)=true) (hl:keys.length=values.length) (h0:keys≠[])
  (h15:keys.length≤15) : PE X (.Dict keys values pos) (tDisp trs):=by
 intro pins s σ H Q I q
 have hn:=I.hok.fresh (Jm s.heap.objs.size)
 have I1:=I.laid (a:=s.heap.objs.size) (o:=.dK []) (h':=s.heap.push { cls:=.type "dict",data:=.dict #[] }) (t':=s.toks) (fun _ _ q=>Jh _ q) (Jm _) (qP s.heap I.big)
 refine wpAny_Dict_walk (knd:=wM X.prog X.w) hall hl h0 h15 (thn (h pins _ σ _ _ I1 (q _ hn)) fun ws s2 ⟨ps,H2,I2,rel,e,kvs,ep,lk,q2⟩=>?_)
 subst ep
 obtain ⟨rs,c,rk⟩:=jo (P:=X.prog) (w:=X.w) rel
 obtain ⟨z,hd,vs0,r0,dd⟩:=uY I2.hok e
 cases r0
 refine ⟨rs,c,dd,fun h' dd' hs=>⟨.ref s.heap.objs.size,_,?_,rfl,q2⟩⟩
 have hz:(xN [] kvs).length≤sizeLine:=by
  have h1:=fX kvs []
  rw [List.length_nil] at h1
  rw [sizeLine_eq];omega
 have he:∃ q,h'.get? s.heap.objs.size=some q:=let ⟨q,_,_,hq,_⟩:=dd';⟨q,hq⟩
 exact kY I2 (by rw [e];exact True.intro) hs he (qO hz hd (rk.merge .nil) dd')
section
variable {X:Cx} {pins:List (Addr × Obj)} {σ:St} {H:Hp} {s:Shared} {a:Addr} {y d:V} {u r:Value} {o:Option V} {A:Around} {E:Value→Shared→Prop}
end
section
variable {X:Cx} {o e f:Expr} {apos cpos:Pos} {td ty tx:TE}
end
section
variable {X:Cx} {pins:List (Addr × Obj)} {σ:St} {H:Hp} {s:Shared} {a:Addr} {kvs:List (Key × V)} {A:Around} {E:Value→Shared→Prop}
end
section
variable {X:Cx} {pins:List (Addr × Obj)} {σ:St} {H:Hp} {s:Shared} {a:Addr} {y:V} {u:Value} {A:Around} {E:Value→Shared→Prop}
end
end L2
namespace Att
open PySem PySem.W PySem.Calls PyProof.Rows
theorem iV {P:Params} {h:Heap} : ∀ (ns:List Int) (vs:List Value),WellAll P h vs (ns.map WData.int)→IntsAre vs ns:=by
 intro ns
 induction ns with
 | nil =>
  intro vs w
  rw [List.map_nil] at w
  cases w
  exact .nil
 | cons n ns ih =>
  intro vs w
  rw [List.map_cons] at w
  cases w with
  | cons a b =>
   cases a
   exact .cons _ _ (ih _ b)
theorem o5 {l:OpenLaw} {n:Nat} (hn:l.most=some n) {P:Params} {h:Heap} {args:List WData} {vals:List Value}
  (hpre:l.row.toRowW.claim.pre args=true) (hwl:WellAll P h vals args) :
  ∃ a vs ns,vals=[Value.ref a]∧args=[WData.list (ns.map WData.int)]∧h.get? a=some { cls:=.type "list",data:=.seq vs.toArray }∧IntsAre vs ns∧ns.length≤n:=by
 have hsh:WShape.hasAll [] args [.list .int]=true:=(pre_splitW hpre).1
 have hc:l.pre.holds [] { args:=args }=true:=(pre_splitW hpre).2
 obtain ⟨d,r,rfl,h1,h2⟩:=hasAllW_cons hsh
 obtain rfl:=hasAllW_nil h2
 obtain ⟨xs,rfl,h3⟩:=hasW_list h1
 obtain ⟨ns,rfl⟩:=items_int h3
 have hlen:ns.length≤n:=by
  unfold OpenLaw.pre at hc
  have h4:(WTm.not (.lt (.lit (.int (n:Int))) (.len (.arg 0)))).holds [] { args:=[.list (ns.map .int)] }=true:=by
   have h4:=(holds_andW hc).1
   rw [hn] at h4
   exact h4
  have h5:=condW_of h4 (w_not (w_lt w_lit (w_len_list (w_arg rfl))))
  rw [J9] at h5
  refine Nat.le_of_not_lt fun q=>?_
  have q':(n:Int)<((ns.length:Nat) : Int):=by omega
  first
   | (rw [Je q'] at h5;exact absurd h5 (by decide))
   | (simp at h5;omega)
 cases hwl with
 | cons w1 w2 =>
  cases w2
  cases w1 with
  | list ho hall=>exact ⟨_,_,ns,rfl,rfl,ho,iV ns _ hall,hlen⟩
theorem o6 (l:OpenLaw) (args:List WData) : l.row.toRowW.claim.post args (.bool true) args=true :=
 postW_of (r:=l.row.toRowW) (X:=(true==true))
  (show WShape.has [] (.bool true) .bool=true by first | rfl | decide | simp [WShape.has,WShape.arms,WShape.armsAll])
  (show (WTm.eq .res (.lit (.bool true))).value [] { args:=args,res:=some (.bool true),after:=args }=some (.bool (true==true)) from w_eq_bool (w_res rfl) w_lit) rfl
theorem mj {l:OpenLaw} {n:Nat} {q:Program} {loose:List Str} {XP:(Str→Option Value)→Heap→Prop} {YP:World→Heap→Prop} {d:DefRec}
  (hn:l.most=some n) (hdf:d.params.defaults=[])
  (call:∀ (w:World) (s₀ s₁:Shared) (mg mb:Str→Option Value) (fa:Addr) (o:Obj) (pm cd doc:Value) (a:Addr) (vs:List Value) (ns:List Int),
   Ground q loose [] XP w s₀ mg mb s₁.heap→YP w s₁.heap →
   s₁.heap.get? fa=some o→o.data=.func (docDef d.name d.params d.body d.scope pm cd doc)→s₁.heap.CodeRec cd d.name→mg d.name=some (.ref fa) →
   s₁.heap.get? a=some { cls:=.type "list",data:=.seq vs.toArray }→IntsAre vs ns→ns.length≤n→s₁.gens = #[] →
   codeAny (model l.prog w) callerA (.call (.ref fa) ⟨[.ref a],[]⟩) (fun r s'=>r=.ok (.ret (.bool true))∧OldK s₁.heap s'.heap∧s'.os=s₁.os∧AllBare s'.gens) s₁) :
  WalkO q loose XP YP l.row.toRowW d [] (fun f vs=>PySem.call f vs):=by
 intro w s₀ s₁ mg mb G Y fa o pm cd doc dV kV ho hd hcd hD hmg hg args vals as hpre hlay hrd hwl hlo
 obtain rfl:dV=.none:=Dflts.none hD hdf
 obtain rfl:kV=.none:=Dflts.noKw hD
 obtain ⟨a,vs,ns,rfl,rfl,hobj,hints,hlen⟩:=o5 hn hpre hwl
 refine enter_call (codeAny_mono (call w s₀ s₁ mg mb fa o pm cd doc a vs ns G Y ho (fd_plain hd) hcd hmg hobj hints hlen hg) fun r s' hq=>?_)
 obtain ⟨rfl,h2,h3,h4⟩:=hq
 exact ⟨.inl ⟨.bool true,.bool true,[],rfl,fun _=>rfl,.bool true,o6 l _,fun _=>⟨List.Pairwise.nil,fun _ hm=>(nomatch hm)⟩⟩,h2,h3,h4⟩
section
variable {prog:Program} {w:World} {A:Around} {E:Value→Shared→Prop} {s:Shared} {K:Frag}
end
end Att
namespace L2
open PySem PySem.Spec PyProof.Rows
theorem ke:∀ {vs:List Value} {ns:List Int},IntsAre vs ns→Vals (ns.map V.int) vs
 | _,_,.nil=>.nil
 | _,_,.cons n t h=>.cons ⟨t,rfl⟩ (ke h)
def Only (H:Hp) : Prop:=∀ b,H b=none∨∃ o xs,H b=some (.frz o (.lst xs))
theorem qQ {P:Program} {w:World} {K:Ay} {mg mb:Str→Option Value} {CX:CXT} {k:Nat} {fa a:Addr} {fd:FuncData} {x:Str} {sp:Sp} {s₁:Shared} {vs:List Value} {ns:List Int}
  (KX:K.In s₁.heap) (hns:s₁.heap.Ns mainGlobals mg) (hb:s₁.heap.Ns builtinsNs mb) (hbb:∀ x:Str,x ≠ "__name__" → mb x=bootBuiltins x) (hlim:s₁.heap.NoLimit) (hg:s₁.gens = #[])
  (ha:s₁.heap.get? a=some { cls:=.type "list",data:=.seq vs.toArray }) (hi:IntsAre vs ns) (hl:ns.length≤sizeLine) (hr:wK k callerA)
  (F:∀ base:Heap,K.In base→base.Ns mainGlobals mg→we P w K mg base CX k fa fd [x] sp) (hbind:∀ (s:Shared) (u:Value),BindsTo s fd ⟨[u],[]⟩ [(x,u)])
  (hsp:∀ H:Hp,Only H→SqL K H a (ns.map V.int)→sp [.ref a] H (fun v _=>v=.bl true) fun _ _ _=>False)
  (hCX:∀ H e s',CX [] H s₁ (fun _ _ _=>False) e s'→False) :
  codeAny (model P w) callerA (.call (.ref fa) ⟨[.ref a],[]⟩) (fun r s'=>r=.ok (.ret (.bool true))∧OldK s₁.heap s'.heap∧s'.os=s₁.os∧AllBare s'.gens) s₁:=by
 have rv:=ke hi
 have lenV:=hi.length
 have core:∀ H:Hp,Only H→SqL K H a (ns.map V.int)→HOk P w H s₁.heap→(∀ b,H b≠none→b=a)→(H a≠none→K.lookup a=none) →
   codeAny (model P w) callerA (.call (.ref fa) ⟨[.ref a],[]⟩) (fun r s'=>r=.ok (.ret (.bool true))∧OldK s₁.heap s'.heap∧s'.os=s₁.os∧AllBare s'.gens) s₁:=by
  intro H hO hS hok hA hK
  have base_of:∀ {b:Addr} {o:Obj},s₁.heap.get? b=some o→H b=none→(yX s₁.heap H).get? b=some o:=fun e n=>qu e n
  have noA:∀ {b:Addr} {o:Obj} {es:Array DictEntry} {ep:Nat},s₁.heap.get? b=some o→o.data=.dict es ep→H b=none:=fun {b o es ep} e d=>by
   cases q:H b with
   | none=>rfl
   | some u =>
    have e':b=a:=hA b (by rw [q];simp)
    subst e'
    rw [ha] at e;cases e
    have d':Data.seq vs.toArray _=Data.dict es ep:=d
    cases d'
  have nsK:∀ {b:Addr} {m:Str→Option Value},s₁.heap.Ns b m→(yX s₁.heap H).Ns b m:=fun {b m} ⟨o,es,ep,e,d,r⟩=>⟨o,es,ep,base_of e (noA e d),d,r⟩
  have hKb:K.In (yX s₁.heap H):=fun b o e=>base_of (KX b o e) (by
   cases q:H b with
   | none=>rfl
   | some u =>
    have e':b=a:=hA b (by rw [q];simp)
    subst e'
    rw [hK (by rw [q];simp)] at e;cases e)
  have hM:Mod K mg (yX s₁.heap H):=⟨hKb,nsK hns,⟨mb,nsK hb,hbb⟩,let ⟨mc,h1,h2⟩:=hlim;⟨mc,nsK h1,h2⟩⟩
  have e0:zN P w K mg (yX s₁.heap H) callerA [] s₁ H:=⟨rfl,hM,fun b o e=>t9 e,Nat.le_of_eq (oP _ _),trivial,fun b hb=>absurd (show b∈([] : List Addr) from hb) (by simp),hok,.of_eq hg⟩
  refine codeAny_mono ((F _ hKb (nsK hns)).run callerA [] s₁ H ⟨[.ref a],[]⟩ [.ref a] [.ref a] _ _ hr e0 (hbind s₁ (.ref a)) (.cons rfl .nil) (hsp H hO hS)) fun r s' h=>?_
  cases r with
  | error e=>exact (hCX H e s' h).elim
  | ok fl =>
   cases fl with
   | next=>exact False.elim h
   | brk=>exact False.elim h
   | cont=>exact False.elim h
   | ret u =>
    obtain ⟨v,H',os,bare,un,hok',r',q⟩:=h
    have q':v=.bl true:=q
    subst q'
    obtain rfl:u=Value.bool true:=r'
    refine ⟨rfl,OldK.of_keep fun b o e=>?_,os,bare⟩
    cases q:H b with
    | none=>exact un.keep b o e q (by intro z;exact absurd (show b∈([] : List Addr) from z) (by simp)) (by simp)
    | some u =>
     rcases hO b with z | ⟨ob,xs,z⟩
     ·rw [q] at z;cases z
     ·have z2:=un.frzs b ob _ z
      obtain ⟨e1,_⟩:=hok b _ z
      obtain ⟨e2,_⟩:=hok' b _ z2
      rw [e] at e1;cases e1
      exact e2
 cases hk:K.lookup a with
 | some o =>
  have e:=KX a o hk
  rw [ha] at e
  cases e
  refine core (fun _=>none) (fun _=>.inl rfl) (.inr ⟨_,vs.toArray,_,hk,rfl,rfl,rfl,by rw [Jk,lenV];exact hl,by simpa using rv⟩) (fun b u z=>by have z':(none:Option HO)=some u:=z;cases z') (fun b z=>absurd rfl z) fun z=>absurd rfl z
 | none =>
  refine core (fun b=>if b=a then some (.frz { cls:=.type "list",data:=.seq vs.toArray } (.lst (ns.map V.int))) else none) (fun b=>?_) (.inl (.inr ⟨{ cls:=.type "list",data:=.seq vs.toArray },J3 rfl⟩)) (fun b u z=>?_) (fun b z=>?_) fun _=>hk
  ·by_cases hb:b=a
   ·exact .inr ⟨_,_,J3 hb⟩
   ·exact .inl (J0 hb)
  ·by_cases hb:b=a
   ·have z':=(J3 hb).symm.trans z
    cases z'
    subst hb
    exact ⟨ha,by rw [J9];exact hl,vs,_,rv,ha⟩
   ·have z':=(J0 hb).symm.trans z
    cases z'
  ·by_cases hb:b=a
   ·exact hb
   ·exact absurd (J0 hb) z
end L2
namespace L2
open PySem PySem.Spec PyProof.Rows
theorem uk {l:PySem.W.OpenLaw} {n k:Nat} {q:Program} {loose:List Str} {XP:(Str→Option Value)→Heap→Prop} {YP:World→Heap→Prop} {d:DefRec} {K:Params→Ay} {CX:World→CXT} {sp:World→Sp} {x:Str}
  (hn:l.most=some n) (hn2:n≤sizeLine) (hdf:d.params.defaults=[]) (hr:wK k callerA)
  (hY:∀ (w:World) (h:Heap),YP w h→(K w.params).In h)
  (F:∀ (w:World) (mg:Str→Option Value) (fa:Addr) (h:Heap),(K w.params).In h→h.Ns mainGlobals mg→mg d.name=some (.ref fa) →
   ∃ fd:FuncData,(∀ (s:Shared) (u:Value),BindsTo s fd ⟨[u],[]⟩ [(x,u)]) ∧
    ∀ base:Heap,(K w.params).In base→base.Ns mainGlobals mg→we l.prog w (K w.params) mg base (CX w) k fa fd [x] (sp w))
  (hsp:∀ (w:World) (H:Hp) (a:Addr) (ns:List Int),ns.length≤n→Only H→SqL (K w.params) H a (ns.map V.int)→sp w [.ref a] H (fun v _=>v=.bl true) fun _ _ _=>False)
  (hCX:∀ (w:World) (H:Hp) (s:Shared) (e:Value) (s':Shared),CX w [] H s (fun _ _ _=>False) e s'→False) :
  PySem.W.WalkO q loose XP YP l.row.toRowW d [] (fun f vs=>PySem.call f vs):=by
 refine Att.mj hn hdf fun w s₀ s₁ mg mb fa o pm cd doc a vs ns G Y ho hd hcd hmg hobj hints hlen hg=>?_
 have KX:=hY w _ Y
 obtain ⟨fd,hb,hF⟩:=F w mg fa _ KX G.T.g hmg
 exact qQ KX G.T.g G.T.b G.T.builtins G.T.nolimit hg hobj hints (Ju hlen hn2) hr hF hb (fun H hO hS=>hsp w H a ns hlen hO hS) fun H e s'=>hCX w H s₁ e s'
end L2
namespace L2
open PySem PySem.Spec PyProof.Rows
def inClass (s:Stmt) (j:Nat) : Stmt:=match s with
 | .ClassDef _ _ _ body _ _ _ _ _ _ _=>body.getD j (.Pass ⟨0,0,0,0⟩)
 | _=>.Pass ⟨0,0,0,0⟩
def w4 (s:Stmt) : Arguments:=match s with
 | .FunctionDef _ a _ _ _ _ _ _ _ _=>a
 | _=>{ posonlyargs:=[],args:=[],vararg:=none,kwonlyargs:=[],kw_defaults:=[],kwarg:=none,defaults:=[] }
def wR (s:Stmt) : List Stmt:=match s with
 | .FunctionDef _ _ b _ _ _ _ _ _ _=>b
 | _=>[]
def vZ (s:Stmt) : Scope:=match s with
 | .FunctionDef _ _ _ _ _ _ sc _ _ _=>sc
 | _=>{ kind:=.function,names:=[],isGenerator:=false,isCoroutine:=false }
abbrev CX0:CXT:=fun _ _ _ _ _ _=>False
abbrev E0:XK:=fun _ _ _=>False
theorem wg {X:Cx} : Passes CX0 X E0:=fun _ _ _ _ _ _ _ h=>h.elim
structure Fun (K:Ay) (x qual:Str) (st:Stmt) (f:Addr) (fd:FuncData) : Prop where
 ex:∃ (oc:Value) (od:Option Addr) (kV doc pm:Value) (an:Option Addr) (cdv ct:Value) (osl:Array (Option Value)),
  fd=PySem.W.fnOf x qual (w4 st) (wR st) (vZ st) .none kV doc pm an cdv ct∧K.lookup f=some ⟨oc,od,.func fd,osl⟩∧PySem.W.codeIn K cdv qual=true
 kp:PySem.W.keepIn K (.ref f)=true
section
variable {P:Program} {w:World} {K:Ay} {mg:Str→Option Value} {base:Heap}
theorem Fun.ok {x qual:Str} {st:Stmt} {f:Addr} {fd:FuncData} {N ps:List Str} {k:Nat} {sp:Sp} (F:Fun K x qual st f fd) (S:wb N ps (vZ st)) (len:∀ vs H Q E,sp vs H Q E→vs.length=ps.length)
  (hbody:∀ (cdv:Value) (A:Around) (outer:List Env) (s:Shared) (H:Hp) (vs:List V) (Q:VK) (E:XK),wK k (A.deeper (envOfC qual (vZ st) s.heap.objs.size f cdv))→sp vs H Q E →
   ∃ t,PSs (zA CX0 P w K mg base N qual (vZ st) f cdv A outer s H E).nox (wR st) t∧t { nx:=fun _ H'=>Q .non H',rt:=Q } (start N vs) H) : we P w K mg base CX0 (k+1) f fd ps sp:=by
 obtain ⟨oc,od,kV,doc,pm,an,cdv,ct,osl,rfl,lk,hcd⟩:=F.ex
 refine uW lk hcd S len fun A outer s H vs Q E hr hsp=>?_
 obtain ⟨t,h,q⟩:=hbody cdv A outer s H vs Q E hr hsp
 exact ⟨t,h.nox,q⟩
theorem Fun.binds {x qual:Str} {st:Stmt} {f:Addr} {fd:FuncData} {ps:List Str} (F:Fun K x qual st f fd)
  (h:∀ (kV doc pm:Value) (an:Option Addr) (cdv ct:Value) (us:List Value),us.length=ps.length→bindArgs (PySem.W.fnOf x qual (w4 st) (wR st) (vZ st) .none kV doc pm an cdv ct) ⟨us,[]⟩=pure (ps.zip us)) : Binds K fd ps []:=by
 obtain ⟨oc,od,kV,doc,pm,an,cdv,ct,osl,rfl,lk,hcd⟩:=F.ex
 exact .all (h kV doc pm an cdv ct)
theorem kZ {x qual:Str} {st:Stmt} {f:Addr} {oc:Value} {od an:Option Addr} {osl:Array (Option Value)} {kV doc pm cdv ct:Value} (l:K.lookup f=some ⟨oc,od,.func (PySem.W.fnOf x qual (w4 st) (wR st) (vZ st) .none kV doc pm an cdv ct),osl⟩)
  (c:PySem.W.codeIn K cdv qual=true) (k:PySem.W.keepIn K (.ref f)=true) : Fun K x qual st f (PySem.W.fnOf x qual (w4 st) (wR st) (vZ st) .none kV doc pm an cdv ct):=⟨⟨oc,od,kV,doc,pm,an,cdv,ct,osl,rfl,l,c⟩,k⟩
end
theorem bM {A:Around} {k:Nat} (hr:wK k A) : A.units+1<cLine:=Nat.lt_of_le_of_lt (Nat.add_le_add_left (by decide : 1≤64) _) hr.units
section
variable {X:Cx}
theorem pv (i:Nat) {x:Str} {pos:Pos} (hN:X.N[i]? = some x:=by rfl) (hv:Vis X.env.scope x:=by first | exact Or.inl rfl | exact Or.inr (Or.inl rfl) | exact Or.inr (Or.inr rfl)) (hd:(x==("__debug__" : Str))=false:=by decide)
  (hcd:(x==("__classdict__" : Str))=false:=by decide) : PE X (.Name x pos) (yx i):=kN hN hv hd hcd
end
theorem yo {A B:Prop} (h:B) : if false=true then A else B:=by
 rw [J0 Jn]
 exact h
theorem xq {A B:Prop} (h:A) : if true=true then A else B:=by
 rw [J3 rfl]
 exact h
theorem wx {c A B:Prop} [Decidable c] (h1:c→A) (h2:¬ c→B) : if c then A else B:=by
 by_cases h:c
 ·rw [J3 h]
  exact h1 h
 ·rw [J0 h]
  exact h2 h
def wm (H H':Hp) : Prop:=∀ b o,H b=some o→H' b=some o
theorem wm.refl (H:Hp) : wm H H:=fun _ _ h=>h
theorem wm.trans {H H1 H2:Hp} (a:wm H H1) (b:wm H1 H2) : wm H H2:=fun c o h=>b c o (a c o h)
theorem wm.free {H H':Hp} (e:wm H H') {l:Addr} (h:H' l=Option.none) : H l=Option.none:=by
 cases q:H l with
 | none=>rfl
 | some o =>
  rw [e l o q] at h
  cases h
theorem wm.seq {K:Ay} {H H':Hp} {a:Addr} {xs:List V} (e:wm H H') (h:SqL K H a xs) : SqL K H' a xs:=by
 rcases h with (h | ⟨o,h⟩) | h
 ·exact .inl (.inl (e _ _ h))
 ·exact .inl (.inr ⟨o,e _ _ h⟩)
 ·exact .inr h
section
variable {κ:Type} [DecidableEq κ]
end
end L2
namespace L2
open PySem PySem.Spec PyProof.Rows
theorem cK:bootBuiltins "list" = some (.type "list"):=by decide +kernel
theorem jq:bootBuiltins "tuple" = some (.type "tuple"):=by decide +kernel
theorem iD:bootBuiltins "int" = some (.type "int"):=by decide +kernel
theorem qR:bootBuiltins "str" = some (.type "str"):=by decide +kernel
theorem um:bootBuiltins "bool" = some (.type "bool"):=by decide +kernel
theorem br:bootBuiltins "isinstance" = some (.builtin "isinstance"):=by decide +kernel
theorem bF:bootBuiltins "len" = some (.builtin "len"):=by decide +kernel
theorem vw:bootBuiltins "sum" = some (.builtin "sum"):=by decide +kernel
theorem o8:bootBuiltins "sorted" = some (.builtin "sorted"):=by decide +kernel
theorem qS:bootBuiltins "min" = some (.builtin "min"):=by decide +kernel
section
variable {X:Cx}
theorem fz {x:Str} {n:String} {pos:Pos} (hg:Gl X x) (hm:X.mg x=none) (hv:bootBuiltins x=some (.type n)) (hn:x ≠ "__name__":=by decide) (hd:(x==("__debug__" : Str))=false:=by decide) : PE X (.Name x pos) (tC (.ty n)):=ua hg hm hv rfl hn hd
def tCut (t u:TS) : TS:=fun D σ H=>∃ P:St→Hp→Prop,t { D with nx:=P } σ H∧∀ σ' H',P σ' H'→u D σ' H'
theorem dh {st:Stmt} {rest:List Stmt} {t u:TS} (h1:PS X st t) (h2:PSs X rest u) : PSs X (st::rest) (tCut t u):=by
 intro pins s σ H D I h
 obtain ⟨P,ht,hu⟩:=h
 refine wpAny_execs_cons (thn (h1 pins s σ H { D with nx:=P } I ht) fun f s1 q=>?_)
 cases f with
 | next =>
  obtain ⟨σ',H',I',q⟩:=q
  exact h2 pins s1 σ' H' D I' (hu σ' H' q)
 | ret v=>exact q
 | brk=>exact q
 | cont=>exact q
def CBits (i j:Int) : Prop:=Builtin.Int.intBits i≤2 ^ 20∧Builtin.Int.intBits j≤2 ^ 20
theorem ot:OpR X (binaryOp .Mult) (rI CBits fun i j=>.int (i*j)):=opI fun _ _ _ _ _ _ _ c q=>mul_int q (IntMulOk.of_bits c.1 c.2)
theorem o9 (hc:X.calm=true) : xU X (.builtin "sum") (fun xs H Q=>∃ (p:Addr) (ns:List Int),xs=[.ref p]∧SqL X.K H p (ns.map V.int)∧Q (.int ns.sum) H):=by
 intro pins s σ H xs us Q I r h
 obtain ⟨p,ns,rfl,hq,q⟩:=h
 obtain ⟨u,rfl,rx⟩:=vals1 r
 cases rx
 obtain ⟨its,r',pl,hz⟩:=I.list hq
 have hi:IntsAre its ns:=intsAre_of r'
 obtain ⟨ps,e⟩:=hi.allInts.items
 have hl:=pl.isList
 rw [e] at hl
 have hs:preSum (numAt ps) ps.size=ns.sum:=by
  rw [preSum_eq,List.take_of_length_le (by simp),← nums_intItems,← e]
  exact congrArg List.sum hi.numsOf
 refine sum_intListG (I.ok.hd hc) hl fun h' tk t' k=>⟨.int ns.sum,H,I.kept k,⟨t',by rw [hs]⟩,q⟩
inductive IsiOf (K:Ay) (H:Hp) (t:Value) : V→Bool→Prop where
 | one {n:String} {b:Bool} (e:PySem.W.kitOne K t (.type n)=some b) : IsiOf K H t (.ty n) b
 | tup {p:Addr} {ns:List String} {b:Bool} (h:H p=some (.tup (ns.map V.ty))) (e:PySem.W.kitAny K t (ns.map Value.type)=some b) : IsiOf K H t (.ref p) b
theorem ou:∀ {ns:List String} {us:List Value},Vals (ns.map V.ty) us→us=ns.map Value.type
 | [],_,.nil=>rfl
 | n::ns,_,.cons r t=>by
  cases (show _=Value.type n from r)
  rw [ou t]
  rfl
theorem m7 {pins:List (Addr × Obj)} {σ:St} {H:Hp} {s:Shared} {A:Around} {E:Value→Shared→Prop} {Q:Value→Shared→Prop} {b:Bool} {x:V} {u t:Value} {tp:Addr} {cs:List Value} (I:Inv X pins σ H s) (rx:RelV x u) (ty:xK X.K H x t) (ht:IsTup s.heap tp cs.toArray)
  (e:PySem.W.kitAny X.K t cs=some b) (h:∀ tk,Q (.bool b) { s with toks:=tk }) : wpAny (model X.prog X.w) A (call (.builtin "isinstance") [u,.ref tp]) Q E s:=by
 obtain ⟨⟨cls,dd,data,sl⟩,htp,hcl,n,hdt⟩:=ht
 simp only at hcl hdt
 subst hcl hdt
 cases ty with
 | non=>cases (show u=Value.none from rx);exact PySem.W.kia_tup PySem.W.kitx_none I.kIn True.intro htp e (fun z=>nomatch z) h
 | bl y=>cases (show u=Value.bool y from rx);exact PySem.W.kia_tup PySem.W.kitx_bool I.kIn True.intro htp e (fun z=>nomatch z) h
 | int i=>obtain ⟨t,q⟩:=(show ∃ t,u=Value.int i t from rx);cases q;exact PySem.W.kia_tup PySem.W.kitx_int I.kIn True.intro htp e (fun z=>nomatch z) h
 | str y=>obtain ⟨t,q⟩:=(show ∃ t,u=Value.str y t from rx);cases q;exact PySem.W.kia_tup PySem.W.kitx_str I.kIn True.intro htp e (fun z=>nomatch z) h
 | flt y=>obtain ⟨t,q⟩:=(show ∃ t,u=Value.float y t from rx);cases q;exact PySem.W.kia_tup PySem.W.kitx_float I.kIn True.intro htp e (fun z=>nomatch z) h
 | @lst a xs ea =>
  cases (show u=Value.ref a from rx)
  obtain ⟨_,_,n,_,h1⟩:=(show wD X.prog X.w H s.heap a (.lst xs) from I.hok a _ ea)
  exact PySem.W.kia_tup PySem.W.kitx_list I.kIn ⟨_,h1,rfl⟩ htp e (fun z=>nomatch z) h
 | @frz a ob xs ea =>
  cases (show u=Value.ref a from rx)
  obtain ⟨_,_,_,n,_,h1⟩:=(show wD X.prog X.w H s.heap a (.frz ob (.lst xs)) from I.hok a _ ea)
  exact PySem.W.kia_tup PySem.W.kitx_list I.kIn ⟨_,h1,rfl⟩ htp e (fun z=>nomatch z) h
 | @tup a xs ea =>
  cases (show u=Value.ref a from rx)
  obtain ⟨_,_,_,p⟩:=(show wD X.prog X.w H s.heap a (.tup xs) from I.hok a _ ea)
  obtain ⟨o,h1,h2,_⟩:=p
  exact PySem.W.kia_tup PySem.W.kitx_tuple I.kIn ⟨o,h1,h2⟩ htp e (fun z=>nomatch z) h
 | @dK a kvs ea =>
  cases (show u=Value.ref a from rx)
  obtain ⟨_,_,vs,_,p⟩:=(show wD X.prog X.w H s.heap a (.dK kvs) from I.hok a _ ea)
  obtain ⟨o,es,ep,h1,h2,_⟩:=p
  exact PySem.W.kia_tup PySem.W.kitx_dict I.kIn ⟨o,h1,h2.1⟩ htp e (fun z=>nomatch z) h
 | @dT a kvs ea =>
  cases (show u=Value.ref a from rx)
  obtain ⟨_,_,xs,_,o,es,ep,h1,h2,_⟩:=(show wD X.prog X.w H s.heap a (.dT kvs) from I.hok a _ ea)
  exact PySem.W.kia_tup PySem.W.kitx_dict I.kIn ⟨o,h1,h2.1⟩ htp e (fun z=>nomatch z) h
 | @ins a C dx fs ea cl ha hn htk hm =>
  cases (show u=Value.ref a from rx)
  obtain ⟨mA,O,_⟩:=gM I.hok ea
  obtain ⟨od,J,_⟩:=O.look
  exact PySem.W.kia_tup (PySem.W.kitx_own (cl.get _) cl.hd ha hn htk hm) I.kIn J htp e (fun z=>nomatch z) h
def rIsi (K:Ay) : List V→Hp→VK→Prop:=fun xs H Q=>∃ x c t b,xs=[x,c]∧xK K H x t∧IsiOf K H t c b∧Q (.bl b) H
theorem b9:xU X (.builtin "isinstance") (rIsi X.K):=by
 intro pins s σ H xs us Q I r h
 obtain ⟨x,c,t,b,rfl,ty,z,q⟩:=h
 obtain ⟨u,d,rfl,rx,rc⟩:=vals2 r
 cases z with
 | one e =>
  cases rc
  exact oW I rx ty e fun tk=>⟨.bl b,H,I.tok _,rfl,q⟩
 | @tup p ns b hp e =>
  cases rc
  obtain ⟨_,its,rv,ht⟩:=(show wD X.prog X.w H s.heap p (.tup (ns.map V.ty)) from I.hok p _ hp)
  rw [ou rv] at ht
  exact m7 I rx ty ht e fun tk=>⟨.bl b,H,I.tok _,rfl,q⟩
def rNeNil (K:Ay) : R2:=fun x y H Q=>∃ a b xs,x=.ref a∧y=.ref b∧SqL K H a xs∧H b=some (.lst [])∧Q (.bl (!xs.isEmpty)) H
theorem jr (hu:X.A.units<cLine) : OpR X (compareOp .NotEq) (rNeNil X.K):=by
 intro pins s σ H x y v u Q I rx ry h
 obtain ⟨a,b,xs,rfl,rfl,ha,hb,q⟩:=h
 cases rx
 cases ry
 obtain ⟨its,r,⟨⟨cls,dd,data,sl⟩,n,e,hc,hdd,hd⟩,hz⟩:=I.list ha
 obtain ⟨its2,r2,⟨⟨cls2,dd2,data2,sl2⟩,n2,e2,hc2,hdd2,hd2⟩,_⟩:=I.list (SqL.of hb)
 simp only at hc hd hc2 hd2 hdd hdd2
 subst hc hd hc2 hd2
 have z2:its2=[]:=by cases r2;rfl
 subst z2
 by_cases c:its=[]
 ·subst c
  have z1:xs=[]:=by cases r;rfl
  subst z1
  exact richCompare_meets_room (op:=.NotEq) ⟨_,e,rfl⟩ ⟨_,e2,rfl⟩ PySem.F.slot_list_ne PySem.F.entry_list_ne (PySem.F.args_list_ne_2 _ _) (PySem.SeqAt.list_neAt a b #[] #[] n n2 dd dd2 sl sl2 rfl (fun _=>true))
   ⟨e,e2,(fun j h1 _=>absurd h1 (Y7 _)),show Value.bool false≠Value.notImplemented∧EP X pins σ Q (.bool false) s from ⟨(fun x=>nomatch x),⟨.bl false,H,I,rfl,q⟩⟩⟩ hu
 ·have z1:xs.isEmpty=false:=by
   cases r with
   | nil=>exact absurd rfl c
   | cons _ _=>rfl
  rw [z1] at q
  exact richCompare_meets_room (op:=.NotEq) ⟨_,e,rfl⟩ ⟨_,e2,rfl⟩ PySem.F.slot_list_ne PySem.F.entry_list_ne (PySem.F.args_list_ne_2 _ _) (PySem.SeqAt.list_ne_lengthsAt a b its.toArray #[] n n2 dd dd2 sl sl2 (by cases its with | nil=>exact absurd rfl c | cons _ _=>rfl))
   ⟨e,e2,show Value.bool true≠Value.notImplemented∧EP X pins σ Q (.bool true) s from ⟨(fun x=>nomatch x),⟨.bl true,H,I,rfl,q⟩⟩⟩ hu
def rEqNil (K:Ay) : R2:=fun x y H Q=>∃ a b xs,x=.ref a∧y=.ref b∧SqL K H a xs∧H b=some (.lst [])∧Q (.bl xs.isEmpty) H
theorem qT (hu:X.A.units<cLine) : OpR X (compareOp .Eq) (rEqNil X.K):=by
 intro pins s σ H x y v u Q I rx ry h
 obtain ⟨a,b,xs,rfl,rfl,ha,hb,q⟩:=h
 cases rx
 cases ry
 obtain ⟨its,r,⟨⟨cls,dd,data,sl⟩,n,e,hc,hdd,hd⟩,hz⟩:=I.list ha
 obtain ⟨its2,r2,⟨⟨cls2,dd2,data2,sl2⟩,n2,e2,hc2,hdd2,hd2⟩,_⟩:=I.list (SqL.of hb)
 simp only at hc hd hc2 hd2 hdd hdd2
 subst hc hd hc2 hd2
 have z2:its2=[]:=by cases r2;rfl
 subst z2
 by_cases c:its=[]
 ·subst c
  have z1:xs=[]:=by cases r;rfl
  subst z1
  exact richCompare_meets_room (op:=.Eq) ⟨_,e,rfl⟩ ⟨_,e2,rfl⟩ PySem.F.slot_list_eq PySem.F.entry_list_eq (PySem.F.args_list_eq_2 _ _) (PySem.SeqAt.list_eqAt a b #[] #[] n n2 dd dd2 sl sl2 rfl (fun _=>true))
   ⟨e,e2,(fun j h1 _=>absurd h1 (Y7 _)),show Value.bool true≠Value.notImplemented∧EP X pins σ Q (.bool true) s from ⟨(fun x=>nomatch x),⟨.bl true,H,I,rfl,q⟩⟩⟩ hu
 ·have z1:xs.isEmpty=false:=by
   cases r with
   | nil=>exact absurd rfl c
   | cons _ _=>rfl
  rw [z1] at q
  exact richCompare_meets_room (op:=.Eq) ⟨_,e,rfl⟩ ⟨_,e2,rfl⟩ PySem.F.slot_list_eq PySem.F.entry_list_eq (PySem.F.args_list_eq_2 _ _) (PySem.SeqAt.list_eq_lengthsAt a b its.toArray #[] n n2 dd dd2 sl sl2 (by cases its with | nil=>exact absurd rfl c | cons _ _=>rfl))
   ⟨e,e2,show Value.bool false≠Value.notImplemented∧EP X pins σ Q (.bool false) s from ⟨(fun x=>nomatch x),⟨.bl false,H,I,rfl,q⟩⟩⟩ hu
end
theorem ai {H:Hp} {p:Addr} (h:H p=none) (o:HO) : wm H (upd H p o):=fun b u q=>by rw [ao (aE q h)];exact q
end L2
namespace L2
open PySem PySem.Spec PyProof.Rows
theorem k8 {prog:Program} {w:World} {A:Around} {R:Result→Shared→Prop} {s:Shared} {elt target iter:Expr} {ifs:List Expr} {scope:Scope} {pos:Pos} {it acc:Value} {env:Env} (I:Nat→Shared→Prop)
  (turn:∀ n s,I n s→wpAny (model prog w) A (pyNext it) (fun r s₁=>match r with
   | none=>R (.ok .next) s₁
   | some v=>wpAny (model prog w) A (letOwnedTupleGo target it v) (fun _ s₁'=>wpAny (model prog w) A (assign target env v) (fun _ s₂ =>
     wpAny (model prog w) A (forIn ifs true fun c r=>if r=true then do let ok ← isTrue c env (eval c env);pure (ForInStep.yield ok) else pure (ForInStep.yield r)) (fun ok s₃ =>
      if ok=true then wpAny (model prog w) A (eval elt env) (fun x s₄ =>
       wpAny (model prog w) A (call (.builtin "list.append") [acc,x]) (fun _ s₅=>∃ m,m<n∧I m s₅) (notedBy (model prog w) A env fun e s'=>R (.error e) s') s₄) (notedBy (model prog w) A env fun e s'=>R (.error e) s') s₃
      else ∃ m,m<n∧I m s₃) (notedBy (model prog w) A env fun e s'=>R (.error e) s') s₂) (notedBy (model prog w) A env fun e s'=>R (.error e) s') s₁') (notedBy (model prog w) A env fun e s'=>R (.error e) s') s₁) (notedBy (model prog w) A env fun e s'=>R (.error e) s') s)
  (n:Nat) (h:I n s) : codeAny (model prog w) A (.compLoop (.ListComp elt [⟨target,iter,ifs,0⟩] scope pos) 0 it acc env) R s:=by
 refine codeAny_loop rfl I (fun n s hI=>?_) n h
 show wpAny _ A ((compTurn (.ListComp elt [⟨target,iter,ifs,0⟩] scope pos) 0 it acc env).onRaise (fun x=>do noteFrame x env;theTreesLotGoes x)) _ _ s
 refine wpAny_noted ?_
 rw [compTurn_list]
 refine Jf (wpAny_standAt (Jf (wpAny_mono (turn n s hI) (fun r s₁ h₁=>?_) fun _ _ h'=>h')))
 cases r with
 | none=>exact Y0 h₁
 | some v =>
  refine Jf (wpAny_mono h₁ (fun _ s₁' h₁'=>?_) fun _ _ h'=>h')
  refine Jf (wpAny_mono h₁' (fun _ s₂ h₂=>Jf (wpAny_mono h₂ (fun ok s₃ h₃=>?_) fun _ _ h'=>h')) fun _ _ h'=>h')
  cases ok with
  | false=>exact Y0 ⟨rfl,h₃⟩
  | true =>
   exact Jf (Jf (wpAny_mono h₃ (fun x s₄ h₄=>Jf (wpAny_mono h₄ (fun _ s₅ h₅=>Y0 (Y0 ⟨rfl,h₅⟩)) fun _ _ h'=>h')) fun _ _ h'=>h'))
theorem gc {env:Env} : ∀ (names:List (Str × NameKind)) (cs:List (Str × Addr)),(∀ n∈names,n.2=.free→∃ c,env.cells.lookup n.1=some c) →
  ∃ cl,(forIn names cs (fun x r=>if (x.2==NameKind.free)=true then do let y ← cellOf env x.1;pure (ForInStep.yield ((x.1,y)::r)) else pure (ForInStep.yield r)) : Sem (List (Str × Addr)))=pure cl ∧
   (∀ p∈cl,p∈cs∨env.cells.lookup p.1=some p.2)∧(∀ p∈cs,p∈cl)∧∀ n∈names,n.2=.free→∃ c,(n.1,c)∈cl
 | [],cs,_=>⟨cs,rfl,fun p hp=>.inl hp,fun p hp=>hp,fun n hn=>nomatch hn⟩
 | x::r,cs,h=>by
  rw [List.forIn_cons]
  cases hx:(x.2==NameKind.free) with
  | false =>
   obtain ⟨cl,e,a,b,c⟩:=gc r cs fun n hn=>h n (Jd _ hn)
   refine ⟨cl,?_,a,b,fun n hn hf=>?_⟩
   ·simp only [Bool.false_eq_true,if_false,pure_bind]
    exact e
   ·rcases List.mem_cons.mp hn with rfl | hn
    ·rw [hf] at hx;cases hx
    ·exact c n hn hf
  | true =>
   have hf:x.2=.free:=by simpa using hx
   obtain ⟨y,hy⟩:=h x Jb hf
   obtain ⟨cl,e,a,b,c⟩:=gc r ((x.1,y)::cs) fun n hn=>h n (Jd _ hn)
   have ey:cellOf env x.1=pure y:=by unfold cellOf;rw [hy]
   refine ⟨cl,?_,fun p hp=>?_,fun p hp=>b p (Jd _ hp),fun n hn hn'=>?_⟩
   ·simp only [if_true,ey,pure_bind]
    exact e
   ·rcases a p hp with q | q
    ·rcases List.mem_cons.mp q with rfl | q
     ·exact .inr hy
     ·exact .inl q
    ·exact .inr q
   ·rcases List.mem_cons.mp hn with rfl | hn
    ·exact ⟨y,b _ Jb⟩
    ·exact c n hn hn'
theorem cN {α:Type} : ∀ {l:List (Str × α)} {x:Str} {c : α},(x,c)∈l→∃ d,l.lookup x=some d
 | (y,d)::r,x,c,h=>by
  rw [List.lookup_cons]
  cases e:x==y with
  | true=>exact ⟨d,rfl⟩
  | false =>
   rcases List.mem_cons.mp h with h | h
   ·cases h
    simp at e
   ·exact cN h
theorem d6 {α:Type} : ∀ {l:List (Str × α)} {x:Str} {c : α},l.lookup x=some c→(x,c)∈l
 | (y,d)::r,x,c,h=>by
  rw [List.lookup_cons] at h
  cases e:x==y with
  | true =>
   rw [e] at h
   cases h
   have e':x=y:=by simpa using e
   subst e'
   exact Jb
  | false =>
   rw [e] at h
   exact Jd _ (d6 h)
theorem dM {env:Env} : ∀ {names:List (Str × NameKind)} {x:Str},names.lookup x=some .free →
  (names.map fun (n,k)=>if (k==NameKind.free && env.scope.kind==.function && env.kindOf n==some .cell) then (n,NameKind.cell) else (n,k)).lookup x=some .cell ∨
  (names.map fun (n,k)=>if (k==NameKind.free && env.scope.kind==.function && env.kindOf n==some .cell) then (n,NameKind.cell) else (n,k)).lookup x=some .free
 | [],_,h=>by simp at h
 | (n,k)::r,x,h=>by
  have ih:=@dM env r x
  show List.lookup x ((if (k==NameKind.free && env.scope.kind==.function && env.kindOf n==some .cell)=true then (n,NameKind.cell) else (n,k))::_)=_∨List.lookup x ((if (k==NameKind.free && env.scope.kind==.function && env.kindOf n==some .cell)=true then (n,NameKind.cell) else (n,k))::_)=_
  cases hx:x==n with
  | true =>
   simp only [List.lookup_cons,hx] at h
   cases h
   by_cases hc:(NameKind.free==NameKind.free && env.scope.kind==.function && env.kindOf n==some .cell)=true
   ·left;rw [J3 hc];simp only [List.lookup_cons,hx]
   ·right;rw [J0 hc];simp only [List.lookup_cons,hx]
  | false =>
   simp only [List.lookup_cons,hx] at h
   by_cases hc:(k==NameKind.free && env.scope.kind==.function && env.kindOf n==some .cell)=true
   ·rw [J3 hc];simp only [List.lookup_cons,hx];exact ih h
   ·rw [J0 hc];simp only [List.lookup_cons,hx];exact ih h
theorem gQ {env:Env} : ∀ {names:List (Str × NameKind)} {x:Str},(∀ y∈names,y.2≠.cell) →
  ((names.map fun (n,k)=>if (k==NameKind.free && env.scope.kind==.function && env.kindOf n==some .cell) then (n,NameKind.cell) else (n,k)).lookup x=some .cell ∨
  (names.map fun (n,k)=>if (k==NameKind.free && env.scope.kind==.function && env.kindOf n==some .cell) then (n,NameKind.cell) else (n,k)).lookup x=some .free)→(x,NameKind.free)∈names
 | [],_,_,h=>by simp at h
 | (n,k)::r,x,hn,h=>by
  have ih:=@gQ env r x fun y hy=>hn y (Jd _ hy)
  have h':List.lookup x ((if (k==NameKind.free && env.scope.kind==.function && env.kindOf n==some .cell)=true then (n,NameKind.cell) else (n,k))::(r.map fun (n,k)=>if (k==NameKind.free && env.scope.kind==.function && env.kindOf n==some .cell) then (n,NameKind.cell) else (n,k)))=some .cell ∨
   List.lookup x ((if (k==NameKind.free && env.scope.kind==.function && env.kindOf n==some .cell)=true then (n,NameKind.cell) else (n,k))::(r.map fun (n,k)=>if (k==NameKind.free && env.scope.kind==.function && env.kindOf n==some .cell) then (n,NameKind.cell) else (n,k)))=some .free:=h
  have hk:=hn (n,k) Jb
  cases hx:x==n with
  | true =>
   have e:x=n:=by simpa using hx
   subst e
   by_cases hc:(k==NameKind.free && env.scope.kind==.function && env.kindOf x==some .cell)=true
   ·have hf:k=.free:=by
     rw [Yb,Yb] at hc
     simpa using hc.1.1
    subst hf
    exact Jb
   ·rw [J0 hc] at h'
    simp only [List.lookup_cons,hx] at h'
    rcases h' with q | q
    ·cases q;exact absurd rfl hk
    ·cases q;exact Jb
  | false =>
   refine Jd _ (ih ?_)
   by_cases hc:(k==NameKind.free && env.scope.kind==.function && env.kindOf n==some .cell)=true
   ·rw [J3 hc] at h';simpa only [List.lookup_cons,hx] using h'
   ·rw [J0 hc] at h';simpa only [List.lookup_cons,hx] using h'
abbrev wO (X:Cx) (scope:Scope) (N:List Str) (C:Addr) (cl:List (Str × Addr)) (fp:List Addr) (s₃:Shared) (H₃:Hp) (pins:List (Addr × Obj)) : Cx where
 prog:=X.prog
 w:=X.w
 K:=X.K
 mg:=X.mg
 base:=X.base
 A:=X.A
 N:=N
 s₀:=s₃
 H₀:=H₃
 env:=compEnvC scope cl C X.env
 outer:=X.stack
 stack:=X.stack
 ex:=fp
 fn:=fun _=>false
 calm:=X.calm
 pn:=X.pn++pins
 xe:=fun _ _=>False
inductive yB (X:Cx) (scope:Scope) : List Str→List Nat→Prop where
 | nil:yB X scope [] []
 | cons {x:Str} {j:Nat} {xs:List Str} {js:List Nat} (h1:X.N[j]? = some x) (h2:scope.names.lookup x=some .free) (h3:X.env.kindOf x=some .cell∨X.env.kindOf x=some .free) (t:yB X scope xs js) : yB X scope (x::xs) (j::js)
theorem yB.at_ {X:Cx} {scope:Scope} : ∀ {xs:List Str} {js:List Nat} {i:Nat} {x:Str},yB X scope xs js→xs[i]? = some x →
  ∃ j,js[i]? = some j∧X.N[j]? = some x∧scope.names.lookup x=some .free∧(X.env.kindOf x=some .cell∨X.env.kindOf x=some .free)
 | _,_,_,_,.nil,h=>by simp at h
 | _,_,0,_,.cons h1 h2 h3 _,h=>by
  simp at h
  subst h
  exact ⟨_,rfl,h1,h2,h3⟩
 | _,_,i+1,x,.cons _ _ _ t,h=>by
  obtain ⟨j,a,b⟩:=yB.at_ (i:=i) (x:=x) t (by simpa using h)
  exact ⟨j,by simpa using a,b⟩
def stC (k:Nat) (fr:List Nat) (σ:St) : St:=List.replicate k none++fr.map fun j=>(σ[j]?).join
def PIf (Y:Cx) (ifs:List Expr) (t:TT) : Prop :=
 ∀ (pins:List (Addr × Obj)) (s:Shared) (σ:St) (H:Hp) (Q:Bool→Hp→Prop),Inv Y pins σ H s→t σ H Q →
  wpAny (model Y.prog Y.w) Y.A (forIn ifs true fun c r=>if r=true then do let ok ← isTrue c Y.env (eval c Y.env);pure (ForInStep.yield ok) else pure (ForInStep.yield r)) (TP Y pins σ Q) Y.xe s
def tIf0:TT:=fun _ H Q=>Q true H
theorem eC {Y:Cx} : PIf Y [] tIf0:=fun _ _ _ H _ I h=>wpAny_tests_nil ⟨H,I,h⟩
theorem k9 {Y:Cx} {c:Expr} {t:TT} (hc:PT Y c t) : PIf Y [c] t:=fun pins s σ H Q I h=>wpAny_tests_one (hc pins s σ H Q I h)
def CompGo (J:It) (g:TG) (tc:TT) (te:TE) (acc:Addr) (Q:VK) (τ0:St) (H1:Hp) : Prop:=∃ W:Nat→Nat→St→Hp→Prop,(∃ m,W 0 m τ0 (upd H1 acc (.lst []))) ∧
 ∀ i m τ H2,W i m τ H2→(J.stop i H2∧Q (.ref acc) H2)∨(J.go i H2∧∀ x H3,J.yld i H2 x H3→g x τ H3 fun τ4 H4=>tc τ4 H4 fun b H5 =>
  if b=true then te τ4 H5 fun y H6=>∃ ys,H6 acc=some (.lst ys)∧ys.length<sizeLine∧∃ m',m'<m∧W (i+1) m' τ4 (upd H6 acc (.lst (ys++[y]))) else ∃ m',m'<m∧W (i+1) m' τ4 H5)
def tComp (wi:TI) (g:TG) (tc:TT) (te:TE) (st:St→St) : TE:=fun σ H Q=>wi σ H fun J H1=>∀ acc,H1 acc=none→CompGo J g tc te acc Q (st σ) H1
theorem yB.len {X:Cx} {scope:Scope} : ∀ {xs:List Str} {js:List Nat},yB X scope xs js→xs.length=js.length
 | _,_,.nil=>rfl
 | _,_,.cons _ _ _ t=>congrArg Nat.succ t.len
section
variable {X:Cx} {x:Str} {px pos:Pos} {elt iter:Expr} {ifs:List Expr} {scope:Scope} {wi:TI} {g:TG} {tc:TT} {te:TE}
structure Own (X:Cx) (pins:List (Addr × Obj)) (H:Hp) (C:Addr) : Prop where
 none:H C=none
 loc:C≠X.env.locals
 new:X.s₀.heap.objs.size≤C
 cell:∀ y c,X.env.cells.lookup y=some c→c≠C
 pin:∀ p∈X.pn++pins,p.1≠C
theorem Inv.other {pins:List (Addr × Obj)} {σ:St} {H:Hp} {s:Shared} {C:Addr} {h':Heap} (I:Inv X pins σ H s) (o:Own X pins H C) (hs:Heap.SameBut C s.heap h') : Inv X pins σ H { s with heap:=h' } :=
 I.turned (t':=s.toks) (it:=C) (fun b ob hb e=>(hs.2 b hb).trans e) o.none o.loc (.inr o.new) o.cell o.pin
theorem m9 {own free:List Str} {fr:List Nat} {pins:List (Addr × Obj)} {σ:St} {H3:Hp} {s3:Shared} {Q:VK} {acc it:Addr} {fp:List Addr} {tn:Nat→Heap→Prop} {J:It} {cl:List (Str × Addr)} {W:Nat→Nat→St→Hp→Prop} {m0:Nat}
  (hc:X.calm=true) (I3:Inv X pins σ H3 s3) (T:Turn X.prog X.w X.K (.Name x px) J fp it tn) (st3:tn 0 s3.heap) (f3:∀ b∈fp,zz X pins H3 b)
  (clX:∀ n c,cl.lookup n=some c→X.env.cells.lookup n=some c) (cf:∀ n∈scope.names,n.2=.free→∃ c,(n.1,c)∈cl)
  (w0:W 0 m0 (stC own.length fr σ) H3)
  (turn:∀ i m τ H2,W i m τ H2→(J.stop i H2∧Q (.ref acc) H2)∨(J.go i H2∧∀ x H3,J.yld i H2 x H3→g x τ H3 fun τ4 H4=>tc τ4 H4 fun b H5 =>
   if b=true then te τ4 H5 fun y H6=>∃ ys,H6 acc=some (.lst ys)∧ys.length<sizeLine∧∃ m',m'<m∧W (i+1) m' τ4 (upd H6 acc (.lst (ys++[y]))) else ∃ m',m'<m∧W (i+1) m' τ4 H5))
  (hg:∀ C cl fp s₃ H₃ pins,PG (wO X scope (own++free) C cl fp s₃ H₃ pins) (.Name x px) g)
  (hif:∀ C cl fp s₃ H₃ pins,PIf (wO X scope (own++free) C cl fp s₃ H₃ pins) ifs tc)
  (he:∀ C cl fp s₃ H₃ pins,PE (wO X scope (own++free) C cl fp s₃ H₃ pins) elt te)
  (hfr:yB X scope free fr) (hcell:∀ y∈scope.names,y.2≠.cell) (hkind:scope.kind=.function) {use:Option (Value→Sem Unit)} {QQ:Value→Shared→Prop}
  (fin:∀ (C:Addr) (H':Hp) (s':Shared),Inv X pins σ H' s'→Q (.ref acc) H'→Own X pins H' C→(∃ m,s'.heap.Ns C m)→compPost (model X.prog X.w) X.A X.xe use QQ (.ref acc) C (.ok .next) s') :
  wpAny (model X.prog X.w) X.A (newFunctionEnv scope X.env.globals cl [] X.env.qual none .none (some X.env)) (fun cenv s₄=>codeAny (model X.prog X.w) X.A (.compStart (.ListComp elt [⟨.Name x px,iter,ifs,0⟩] scope pos) 0 (.ref it) (.ref acc) { cenv with scope:=relabel scope X.env })
   (compPost (model X.prog X.w) X.A X.xe use QQ (.ref acc) cenv.locals) s₄) X.xe s3:=by
 refine wpAny_newFunctionEnv hcell (by intro y hy;simp at hy) (fun h₁ hns hsb=>?_) hkind
 try dsimp only at hns hsb ⊢
 have lt3:∀ b∈fp,b<s3.heap.objs.size:=fun b hb=>by
  obtain ⟨o,e,_⟩:=T.obj _ _ st3 b hb
  exact Jv e
 have old:∀ b o,s3.heap.get? b=some o→h₁.get? b=some o:=fun b o e=>hsb.extBut b o (Nat.ne_of_lt (Jv e)) (Jh _ e)
 have nostk:∀ b,b≠X.env.locals→b∉X.fs→b∉frs X.stack:=fun b h1 h2 hb=>by
  rcases List.mem_cons.mp (I3.zL b hb) with e | e
  ·exact h1 e
  ·exact h2 e
 have okY:(wO X scope (own++free) s3.heap.objs.size cl fp s3 H3 pins).Ok:=by
  refine ⟨I3.ok.mod,hkind,I3.ok.glob,I3.ok.blt,Jm _,fun x y c hx hy=>I3.ok.inj x y c (clX x c hx) (clX y c hy),fun x hx=>?_,(fun _ _ h=>nomatch h),I3.ok.hd,I3.ok.frames,.inl rfl,fun b hb=>⟨Nat.ne_of_lt (lt3 b hb),fun x c e=>(f3 b hb).2.2.2.2.1 x c (clX x c e)⟩,I3.bs,
   Ju I3.ok.bsz I3.sz,fun b o e hb=>?_,fun b hb=>nostk b (f3 b hb).2.1 (f3 b hb).2.2.1,I3.stack,I3.yr⟩
  ·obtain ⟨c,hcm⟩:=cf _ (gQ (env:=X.env) hcell hx) rfl
   exact cN hcm
  ·rcases (f3 b hb).2.2.2.1 with z | z
   ·exact I3.ok.noex b o e z
   ·exact absurd (Nat.lt_of_lt_of_le (Jv e) (Ju I3.ok.bsz z)) (Nat.lt_irrefl _)
 have IY:Inv (wO X scope (own++free) s3.heap.objs.size cl fp s3 H3 pins) [] (stC own.length fr σ) H3 { s3 with heap:=h₁,toks:=s3.toks+([] : List (Str × Value)).length }:=by
  refine ⟨okY,rfl,I3.bare,Un.kept old,⟨_,hns,fun i y v e1 e2 e3=>?_⟩,fun y c e=>?_,I3.fresh,fun y c e=>I3.freeC y c (clX y c e),fun p hp=>?_,I3.hok.kept old,?_⟩
  ·have e1':(own++free)[i]? = some y:=e1
   unfold stC at e2
   by_cases hi:i<own.length
   ·rw [List.getElem?_append_left (by simpa using hi),List.getElem?_replicate] at e2
    rw [J3 hi] at e2
    cases e2
   ·rw [Yg (by simpa using Nat.le_of_not_lt hi),List.length_replicate,Jw] at e2
    rw [Yg (Nat.le_of_not_lt hi)] at e1'
    obtain ⟨j,hj,hN,hl,hk⟩:=hfr.at_ e1'
    rw [hj] at e2
    have e2' : σ[j]? = some (some v):=by
     have z:(σ[j]?).join=some v:=Option.some.inj e2
     cases q : σ[j]? with
     | none=>rw [q] at z;cases z
     | some o=>rw [q] at z;exact congrArg some z
    obtain ⟨m,hm,hloc⟩:=I3.loc
    obtain ⟨u,ru,lu⟩:=hloc j y v hN e2' (hk.elim (fun z=>.inr (.inl z)) fun z=>.inr (.inr z))
    refine ⟨u,ru,.inr ⟨dM hl,?_⟩⟩
    rcases lu with ⟨z,_⟩ | ⟨_,c,hc1,hc2⟩
    ·rcases hk with q | q
     ·rw [q] at z;cases z
     ·rw [q] at z;cases z
    ·obtain ⟨c',hcm⟩:=cf _ (d6 hl) rfl
     obtain ⟨d,hd⟩:=cN hcm
     have z:=clX _ _ hd
     rw [hc1] at z
     cases z
     exact ⟨c,hd,hc2.keeps old⟩
  ·obtain ⟨v,z⟩:=I3.cell y c (clX y c e)
   exact ⟨v,z.keeps old⟩
  ·rw [List.append_nil] at hp
   obtain ⟨e,n,ne,nf,d⟩:=I3.pin p hp
   exact ⟨old _ _ e,n,Nat.ne_of_lt (Jv e),nostk _ ne nf,d⟩
  ·show (stC own.length fr σ).length=(own++free).length
   unfold stC
   rw [Jc,Jc,List.length_replicate,J9,hfr.len]
 have t4:tn 0 h₁:=T.keep _ _ _ st3 fun b _ o e=>old b o e
 have stat:∀ {H':Hp},(∀ b∈fp,H' b=none)→∀ b∈fp,zz (wO X scope (own++free) s3.heap.objs.size cl fp s3 H3 pins) [] H' b:=fun hn b hb =>
  ⟨hn b hb,Nat.ne_of_lt (lt3 b hb),nostk b (f3 b hb).2.1 (f3 b hb).2.2.1,.inl hb,fun y c e=>(f3 b hb).2.2.2.2.1 y c (clX y c e),fun p hp=>(f3 b hb).2.2.2.2.2 p (by rw [List.append_nil] at hp;exact hp)⟩
 have back:∀ {τ:St} {H':Hp} {s':Shared},Inv (wO X scope (own++free) s3.heap.objs.size cl fp s3 H3 pins) [] τ H' s'→Q (.ref acc) H'→compPost (model X.prog X.w) X.A X.xe use QQ (.ref acc) s3.heap.objs.size (.ok .next) s':=fun {τ H' s'} I' q=>by
  obtain ⟨m,hm,_⟩:=id I'.loc
  refine fin _ H' s' (I3.call' (ch:=fp) I'.os I'.base I'.hok I'.bare fun b hb=>⟨(f3 b hb).2.2.2.1,(f3 b hb).2.1,(f3 b hb).2.2.2.2.1,(f3 b hb).2.2.2.2.2⟩) q ⟨I'.free,Nat.ne_of_gt I3.lt,I3.sz,fun y c e=>?_,fun p hp=>?_⟩ ⟨m,hm⟩
  ·obtain ⟨v,z⟩:=I3.cell y c e
   exact Nat.ne_of_lt z.lt
  ·exact Nat.ne_of_lt (Jv (I3.pin p hp).1)
 have loop:∀ s₄:Shared,s₄={ s3 with heap:=h₁,toks:=s3.toks+([] : List (Str × Value)).length } →
   codeAny (model X.prog X.w) X.A (.compLoop (.ListComp elt [⟨.Name x px,iter,ifs,0⟩] scope pos) 0 (.ref it) (.ref acc) (compEnvC scope cl s3.heap.objs.size X.env)) (compPost (model X.prog X.w) X.A X.xe use QQ (.ref acc) s3.heap.objs.size) s₄:=by
  rintro s₄ rfl
  refine k8 (fun n s'=>∃ i τ H',Inv (wO X scope (own++free) s3.heap.objs.size cl fp s3 H3 pins) [] τ H' s'∧tn i s'.heap∧(∀ b∈fp,H' b=none)∧W i n τ H') ?_ m0 ⟨0,_,H3,IY,t4,fun b hb=>(f3 b hb).1,w0⟩
  rintro n s5 ⟨i,τ,H5,I5,t5,fr5,w5⟩
  rcases turn i n τ H5 w5 with ⟨stop,qn⟩ | ⟨go,step⟩
  ·refine wpAny_mono (T.done (wO X scope (own++free) s3.heap.objs.size cl fp s3 H3 pins) rfl rfl rfl hc i [] s5 τ H5 _ I5 (stat fr5) t5 stop) (fun r s6 ⟨hr,I6⟩=>?_) fun _ _ z=>z
   subst hr
   exact back I6 qn
  ·refine wpAny_mono (T.item (wO X scope (own++free) s3.heap.objs.size cl fp s3 H3 pins) rfl rfl rfl hc i [] s5 τ H5 _ I5 (stat fr5) t5 go) (fun r s6 ⟨u,hr,h6⟩=>?_) fun _ _ z=>z
   subst hr
   refine wpAny_mono h6 (fun _ s7 ⟨y,H7,I7,r7,y7,t7,fr7⟩=>?_) fun _ _ z=>z
   have I7':=I7.pinned (stat fr7) (T.obj _ _ t7)
   refine wpAny_mono (hg _ _ _ _ _ _ _ s7 τ H7 y u _ I7' r7 (step y H7 y7)) (fun _ s8 ⟨τ8,H8,I8,q8⟩=>?_) fun _ _ z=>z.elim
   refine wpAny_mono (hif _ _ _ _ _ _ _ s8 τ8 H8 _ I8 q8) (fun ok s9 ⟨H9,I9,q9⟩=>?_) fun _ _ z=>z.elim
   have again:∀ {H':Hp} {s':Shared} {m':Nat},Inv (wO X scope (own++free) s3.heap.objs.size cl fp s3 H3 pins) ([]++yy fp s7.heap) τ8 H' s'→m'<n→W (i+1) m' τ8 H' →
     ∃ m,m<n∧∃ i τ H',Inv (wO X scope (own++free) s3.heap.objs.size cl fp s3 H3 pins) [] τ H' s'∧tn i s'.heap∧(∀ b∈fp,H' b=none)∧W i m τ H':=fun {H' s' m'} I' hm w'=>by
    refine ⟨m',hm,i+1,τ8,H',I'.unpinned,T.keep _ _ _ t7 fun b hb o e=>(I'.pin (b,o) (Yc _ (Yc _ (eX hb e)))).1,fun b hb=>?_,w'⟩
    obtain ⟨o,e,_⟩:=T.obj _ _ t7 b hb
    exact (I'.pin (b,o) (Yc _ (Yc _ (eX hb e)))).2.1
   cases ok with
   | false =>
    rw [J0 Jn] at q9 ⊢
    obtain ⟨m',hm,w'⟩:=q9
    exact again I9 hm w'
   | true =>
    rw [J3 rfl] at q9 ⊢
    refine wpAny_mono (he _ _ _ _ _ _ _ s9 τ8 H9 _ I9 q9) (fun v s10 ⟨z,H10,I10,r10,ys,ha,hl,m',hm,w'⟩=>?_) fun _ _ z=>z.elim
    refine wpAny_mono (aX (X:=wO X scope (own++free) s3.heap.objs.size cl fp s3 H3 pins) _ s10 τ8 H10 (.ref acc) [z] (.ref acc) [v] (fun _ H'=>H'=upd H10 acc (.lst (ys++[z]))) I10 rfl (.cons r10 .nil) ⟨acc,ys,z,rfl,rfl,ha,hl,rfl⟩) (fun _ s11 ⟨_,H11,I11,_,e11⟩=>?_) fun _ _ z=>z.elim
    subst e11
    exact again I11 hm w'
 exact codeAny_compStart_list (loop _ rfl) (T.self _ 0 _ _ _ t4 (loop _ rfl))
theorem uo (own free:List Str) (fr:List Nat) (hc:X.calm=true) (hi:PI X (.Name x px) iter wi)
  (hg:∀ C cl fp s₃ H₃ pins,PG (wO X scope (own++free) C cl fp s₃ H₃ pins) (.Name x px) g)
  (hif:∀ C cl fp s₃ H₃ pins,PIf (wO X scope (own++free) C cl fp s₃ H₃ pins) ifs tc)
  (he:∀ C cl fp s₃ H₃ pins,PE (wO X scope (own++free) C cl fp s₃ H₃ pins) elt te)
  (hfr:yB X scope free fr)
  (hall:∀ n∈scope.names,n.2=.free→X.env.kindOf n.1=some .cell∨X.env.kindOf n.1=some .free)
  (hcell:∀ y∈scope.names,y.2≠.cell) (hkind:scope.kind=.function) (hnames:∀ y∈scope.names,y.2=.local→scope.names.lookup y.1=some .local)
  (hs:∀ x,foldedSetIterable iter X.env x=pure x:=by intro _;rfl) :
  PE X (.ListComp elt [⟨.Name x px,iter,ifs,0⟩] scope pos) (tComp wi g tc te (stC own.length fr)):=by
 intro pins s σ H Q I h
 have hlk:∀ n∈scope.names,n.2=.free→∃ c,X.env.cells.lookup n.1=some c:=fun n hn hf=>I.ok.has n.1 (hall n hn hf)
 obtain ⟨cl,hclos,ca,_,cf⟩:=gc (env:=X.env) scope.names [] hlk
 have hclos':closureFor scope X.env=pure cl:=by
  unfold closureFor
  rw [← bind_pure (pure cl:Sem _),← hclos]
 have clX:∀ n c,cl.lookup n=some c→X.env.cells.lookup n=some c:=fun n c e=>by
  rcases ca (n,c) (d6 e) with q | q
  ·cases q
  ·exact q
 rw [eval_ListComp]
 refine wpAny_comprehension_free (use:=none) rfl hs hclos' hkind hnames (thn (hi pins s σ H _ I h) fun xv s1 h1=>thn h1 fun itv s2 h2=>?_)
 obtain ⟨it,fp,tn,J,H2,rfl,I2,T,st2,f2,q⟩:=h2
 refine wpAny_newObj_type ?_
 obtain ⟨W,⟨m0,w0⟩,turn⟩:=q s2.heap.objs.size I2.fresh
 have I3:Inv X pins σ (upd H2 s2.heap.objs.size (.lst [])) { s2 with heap:=s2.heap.push { cls:=.type "list",data:=.seq ([] : List Value).toArray } }:=I2.lnew (its:=[]) (t':=s2.toks) .nil (Nat.zero_le _)
 have lt2:∀ b∈fp,b<s2.heap.objs.size:=fun b hb=>by
  obtain ⟨o,e,_⟩:=T.obj _ _ st2 b hb
  exact Jv e
 exact m9 hc I3 T (T.keep _ _ _ st2 fun b _ o e=>Jh _ e) (fun b hb=>⟨by rw [ao (Nat.ne_of_lt (lt2 b hb))];exact (f2 b hb).1,(f2 b hb).2⟩) clX cf w0 turn hg hif he hfr hcell hkind fun C H' s' I' q o ⟨m,hm⟩=>⟨m,hm,fun h' hs=>⟨.ref _,H',I'.other o hs,rfl,q⟩⟩
end
theorem bT {K:Ay} {a acc:Addr} {xs:List V} {g:TG} {tc:TT} {te:TE} {Q:VK} {τ:St} {H:Hp} (Pv:Nat→St→Hp→Prop) (h0:Pv 0 τ (upd H acc (.lst []))) (hl:∀ i σ H,i≤xs.length→Pv i σ H→SqL K H a xs)
  (hs:∀ i x σ H (N:St→Hp→Prop),(∀ σ' H',Pv (i+1) σ' H'→N σ' H')→xs[i]? = some x→Pv i σ H→g x σ H fun τ4 H4=>tc τ4 H4 fun b H5=>if b=true then te τ4 H5 fun y H6=>∃ ys,H6 acc=some (.lst ys)∧ys.length<sizeLine∧N τ4 (upd H6 acc (.lst (ys++[y]))) else N τ4 H5)
  (hd:∀ σ H,Pv xs.length σ H→Q (.ref acc) H) :
  CompGo (Itl K a) g tc te acc Q τ H:=by
 refine ⟨fun i m σ H=>m=xs.length-i∧i≤xs.length∧Pv i σ H,⟨xs.length,by simp,Nat.zero_le _,h0⟩,?_⟩
 rintro i m σ H ⟨rfl,hi,p⟩
 have q:=hl i σ H hi p
 by_cases hlt:i<xs.length
 ·refine .inr ⟨⟨xs,xs[i],q,by simp [hlt]⟩,fun x H' y=>?_⟩
  obtain ⟨e,y⟩:=y
  subst e
  exact hs i x σ _ (fun τ4 H4=>∃ m',m'<xs.length-i∧m'=xs.length-(i+1)∧i+1≤xs.length∧Pv (i+1) τ4 H4) (fun σ' H' z=>⟨xs.length-(i+1),by omega,rfl,hlt,z⟩) (y xs q) p
 ·have e:i=xs.length:=by omega
  subst e
  exact .inl ⟨⟨xs,q,Jm _⟩,hd σ H p⟩
end L2
namespace L2
open PySem PySem.Spec PyProof.Rows
def CallKR (X:Cx) (f:Value) (ks:List Str) (r:List V→List V→Hp→VK→Prop) : Prop :=
 ∀ (pins:List (Addr × Obj)) (s:Shared) (σ:St) (H:Hp) (xs zs:List V) (us ws:List Value) (Q:VK),Inv X pins σ H s→Vals xs us→Vals zs ws→r xs zs H Q →
  wpAny (model X.prog X.w) X.A (call f us (ks.zip ws)) (EP X pins σ Q) X.xe s
def tCBK (r:List V→List V→Hp→VK→Prop) (t tk:TA) : TE:=fun σ H Q=>t σ H fun vs H1=>tk σ H1 fun zs H2=>r vs zs H2 Q
section
variable {X:Cx} {x:Str} {p pos:Pos} {e:Expr} {es:List Expr} {kws:List Keyword} {ks:List Str} {t tk:TA} {id:String} {r:List V→List V→Hp→VK→Prop}
theorem pb (hc:CallKR X (.builtin id) ks r) (hg:Gl X x) (hm:X.mg x=none) (hv:bootBuiltins x=some (.builtin id)) (ha:PA X (e::es) t) (hk:PK X kws tk) (hn:x ≠ "__name__":=by decide) (hdb:(x==("__debug__" : Str))=false:=by decide)
  (he:backTo pos (starEach (e::es) X.env)=(false,eval e X.env)::backTo pos (starEach es X.env):=by rfl) (hpl:(backTo pos (starEach (e::es) X.env)).any (·.1)=false:=by rfl)
  (hall:(backToKw pos (keywordEach kws X.env)).all (·.1.isSome)=true:=by rfl) (hkw:(backToKw pos (keywordEach kws X.env)).any (·.1.isNone)=false:=by rfl) (hks:(backToKw pos (keywordEach kws X.env)).filterMap (·.1)=ks:=by rfl) :
  PE X (.Call (.Name x p) (e::es) kws pos) (tCBK r t tk):=by
 intro pins s σ H Q I h
 refine wpAny_Call_Name_kw (f9 I hg hm hv ?_ hn hdb)
 refine callWith_kw (thn (ha pos pins s σ H _ I h) fun us s1 ⟨vs,H1,I1,r1,q1⟩=>thn (hk pos pins s1 σ H1 _ I1 q1) fun ws s2 ⟨zs,H2,I2,r2,q2⟩=>?_) he hpl hall hkw
 rw [hks]
 exact hc pins s2 σ H2 vs zs us ws Q I2 r1 r2 q2
end
section
variable {prog:Program} {w:World} {A:Around} {R:Result→Shared→Prop} {I:Addr} {fp wr:List Addr} {n:Nat} {P:Nat→Value→Prop} {St:Nat→Heap→Prop}
def yT (h0:Heap) (wr:List Addr) (S:Addr) (h:Heap) : Prop:=∀ b o,b∉wr→b≠S→h0.get? b=some o→h.get? b=some o
def CmpIn (prog:Program) (w:World) (A:Around) (G:Heap→Prop) (P:Nat→Value→Prop) (bt:Nat→Nat→Bool) : Prop :=
 ∀ i j vi vj (s:Shared) (Q:Value→Shared→Prop) (E:Value→Shared→Prop),G s.heap→P i vi→P j vj→Q (.bool (bt i j)) s→wpAny (model prog w) A (richCompare .Lt vi vj) Q E s
theorem uq (W:Walks prog w A.in1 I fp wr n P St) (bt:Nat→Nat→Bool) (d:Value) (S:Addr) (hSf:S∉fp) (h0:Heap) (cmp:CmpIn prog w A.in1 (yT h0 wr S) P bt) :
  ∀ (k j:Nat) (s:Shared) (vb:Value) (c:Nat),n=j+1+k→St (j+1) s.heap→P (argBest bt j) vb→yT h0 wr S s.heap →
   s.heap.get? S=some { cls:=.type "list",dict:=none,data:=.seq #[vb,vb] c,slots:=#[] } →
   (∀ v h' tk,P (argBest bt (n-1)) v→yT h0 wr S h'→R (.ok (.ret v)) { s with heap:=h',toks:=tk }) →
   codeAny (model prog w) A (.builtin "min.loop" ⟨[.ref I,.none,.ref S],[("default",d)]⟩) R s:=by
 have nw:S∉wr:=fun h=>hSf (W.sub _ h)
 have nm:(toString "min" ++ toString ".loop" : String) = "min.loop":=by decide
 intro k
 induction k with
 | zero =>
  intro j s vb c hk st hb g hS hR
  have en:j+1=n:=by omega
  refine codeAny_builtin F.entry_min_loop ?_
  rw [Around.under_plainId F.plain_min_loop _]
  show wpAny _ A.in1 (seqItems? (.ref S) >>= _) _ _ s
  refine Jf (wpAny_seqItems hS rfl ?_)
  show wpAny _ A.in1 (tryCatch (pyNext (.ref I)) _ >>= _) _ _ s
  refine Jf (wpAny_tryCatch (W.done s _ _ (en ▸ st) fun h1 tk k1=>?_))
  have hS1:=k1 S _ nw hS
  show wpAny _ A.in1 (updateSeq S (fun _=>#[]) >>= _) _ _ _
  refine Jf ?_
  refine wpAny_updateSeq hS1 rfl (Jf (wpAny_letGo (Y0 ?_)))
  exact hR vb _ tk (by rw [← en];exact hb) fun b o h1 h2 e=>(Heap.get?_update_other _ _ (Ne.symm h2)).trans (k1 b o h1 (g b o h1 h2 e))
 | succ k ih =>
  intro j s vb c hk st hb g hS hR
  have lt:j+1<n:=by omega
  refine codeAny_builtin F.entry_min_loop ?_
  rw [Around.under_plainId F.plain_min_loop _]
  show wpAny _ A.in1 (seqItems? (.ref S) >>= _) _ _ s
  refine Jf (wpAny_seqItems hS rfl ?_)
  show wpAny _ A.in1 (tryCatch (pyNext (.ref I)) _ >>= _) _ _ s
  refine Jf (wpAny_tryCatch (W.item (j+1) s _ _ lt st fun v h1 tk hP st1 k1=>?_))
  have hS1:=k1 S _ nw hS
  have g1:yT h0 wr S h1:=fun b o h1 h2 e=>k1 b o h1 (g b o h1 h2 e)
  show wpAny _ A.in1 (tryCatch (holding [v,v] (richCompare .Lt v vb >>= _)) _ >>= _) _ _ _
  refine Jf (wpAny_tryCatch (wpAny_holding (Jf (cmp (j+1) (argBest bt j) v vb _ _ _ g1 hP hb ?_))))
  refine Jf (wpAny_holding (wpAny_truthy_bool ?_))
  refine Jf (wpAny_letGo (Y0 ?_))
  cases hbt:bt (j+1) (argBest bt j) with
  | true =>
   simp only [if_true]
   refine Jf ?_
   refine wpAny_updateSeq hS1 rfl (Jf (wpAny_letGo ?_))
   rw [nm]
   refine Y0 ⟨plainId_quiet F.plain_min_loop _,ih (j+1) _ v _ (by omega) (W.frame _ _ _ st1 fun b hbf o e=>?_) (by simp only [argBest,hbt,if_true];exact hP) (fun b o z1 z2 e=>(Heap.get?_update_other _ _ (Ne.symm z2)).trans (g1 b o z1 z2 e)) (Heap.get?_update_self _ hS1 rfl) fun v' h2 tk2 hP2 g2=>?_⟩
   ·exact (Heap.get?_update_other _ _ (fun z:S=b=>hSf (by rw [z];exact hbf))).trans e
   ·exact hR v' h2 tk2 hP2 g2
  | false =>
   simp only [Bool.false_eq_true,if_false]
   refine Jf (wpAny_letGo ?_)
   rw [nm]
   refine Y0 ⟨plainId_quiet F.plain_min_loop _,ih (j+1) _ vb c (by omega) st1 (by simp only [argBest,hbt,Bool.false_eq_true,if_false];exact hb) g1 hS1 fun v' h2 tk2 hP2 g2=>?_⟩
   exact hR v' h2 tk2 hP2 g2
theorem nj (W:Walks prog w A.in1 I fp wr n P St) (bt:Nat→Nat→Bool) (d:Value) (S:Addr) (hSf:S∉fp) {s:Shared} {c:Nat} (cmp:CmpIn prog w A.in1 (yT s.heap wr S) P bt) (st:St 0 s.heap)
  (hS:s.heap.get? S=some { cls:=.type "list",dict:=none,data:=.seq #[] c,slots:=#[] })
  (hR:∀ v h' tk,(n=0→v=d)→(0<n→P (argBest bt (n-1)) v)→yT s.heap wr S h'→R (.ok (.ret v)) { s with heap:=h',toks:=tk }) :
  codeAny (model prog w) A (.builtin "min.loop" ⟨[.ref I,.none,.ref S],[("default",d)]⟩) R s:=by
 have nw:S∉wr:=fun h=>hSf (W.sub _ h)
 have nm:(toString "min" ++ toString ".loop" : String) = "min.loop":=by decide
 refine codeAny_builtin F.entry_min_loop ?_
 rw [Around.under_plainId F.plain_min_loop _]
 show wpAny _ A.in1 (seqItems? (.ref S) >>= _) _ _ s
 refine Jf (wpAny_seqItems hS rfl ?_)
 show wpAny _ A.in1 (tryCatch (pyNext (.ref I)) _ >>= _) _ _ s
 cases hn:n with
 | zero =>
  refine Jf (wpAny_tryCatch (W.done s _ _ (hn ▸ st) fun h1 tk k1=>?_))
  refine Jf (wpAny_rule (Y0 ?_))
  exact hR d h1 tk (fun _=>rfl) (fun z=>absurd z (by omega)) fun b o z1 _ e=>k1 b o z1 e
 | succ m =>
  refine Jf (wpAny_tryCatch (W.item 0 s _ _ (by omega) st fun v h1 tk hP st1 k1=>?_))
  have hS1:=k1 S _ nw hS
  show wpAny _ A.in1 (updateSeq S (fun _=>#[v,v]) >>= _) _ _ _
  refine Jf ?_
  refine wpAny_updateSeq hS1 rfl ?_
  rw [nm]
  refine Y0 ⟨plainId_quiet F.plain_min_loop _,uq W bt d S hSf s.heap cmp m 0 _ v _ (by omega) (W.frame _ _ _ st1 fun b hbf o e=>?_) hP (fun b o z1 z2 e=>(Heap.get?_update_other _ _ (Ne.symm z2)).trans (k1 b o z1 e)) (Heap.get?_update_self _ hS1 rfl) fun v' h2 tk2 hP2 g2=>?_⟩
  ·exact (Heap.get?_update_other _ _ (fun z:S=b=>hSf (by rw [z];exact hbf))).trans e
  ·exact hR v' h2 tk2 (fun z=>absurd z (by omega)) (fun _=>hP2) g2
end
end L2
namespace L2
open PySem PySem.Spec PyProof.Rows
section
variable {X:Cx} {x:Str} {px pos p2:Pos} {elt iter e st:Expr} {ifs:List Expr} {scope:Scope} {wi:TI} {g:TG} {tc:TT} {te:TE} {to:TO}
theorem cj (own free:List Str) (fr:List Nat) (hc:X.calm=true) (hi:PI X (.Name x px) iter wi)
  (hg:∀ C cl fp s₃ H₃ pins,PG (wO X scope (own++free) C cl fp s₃ H₃ pins) (.Name x px) g)
  (hif:∀ C cl fp s₃ H₃ pins,PIf (wO X scope (own++free) C cl fp s₃ H₃ pins) ifs tc)
  (he:∀ C cl fp s₃ H₃ pins,PE (wO X scope (own++free) C cl fp s₃ H₃ pins) elt te)
  (hfr:yB X scope free fr) (hkind:scope.kind=.function:=by rfl)
  (h1:(scope.names.all fun n=>n.2 != .free || (X.env.kindOf n.1==some .cell || X.env.kindOf n.1==some .free))=true:=by rfl)
  (h2:(scope.names.all fun n=>n.2 != .cell)=true:=by rfl) (h3:(scope.names.all fun n=>n.2 != .local || scope.names.lookup n.1==some .local)=true:=by rfl)
  (hs:∀ x,foldedSetIterable iter X.env x=pure x:=by intro _;rfl) :
  PE X (.ListComp elt [⟨.Name x px,iter,ifs,0⟩] scope pos) (tComp wi g tc te (stC own.length fr)):=by
 refine uo own free fr hc hi hg hif he hfr (fun n hn hf=>?_) (fun n hn hf=>?_) hkind (fun n hn hf=>?_) hs
 ·have z:=List.all_eq_true.mp h1 n hn
  rw [hf] at z
  simpa using z
 ·have z:=List.all_eq_true.mp h2 n hn
  rw [hf] at z
  simp at z
 ·have z:=List.all_eq_true.mp h3 n hn
  rw [hf] at z
  simpa using z
end
def xW (es:List (Addr × List Int)) : Option (Addr × List Int):=es.foldl (fun b e=>match b with | none=>some e | some c=>if HT.lexLt e.2 c.2=true then some e else some c) none
theorem pe:xW []=none:=rfl
theorem jt (es:List (Addr × List Int)) (e:Addr × List Int) : xW (es++[e])=match xW es with | none=>some e | some c=>if HT.lexLt e.2 c.2=true then some e else some c:=by
 unfold xW
 rw [List.foldl_append]
 rfl
theorem gS (es:List (Addr × List Int)) : ∀ k,k<es.length→∃ e,es[argBest (fun i j=>HT.lexLt (es.getD i (0,[])).2 (es.getD j (0,[])).2) k]? = some e∧xW (es.take (k+1))=some e
 | 0,h=>by
  refine ⟨es[0],Ja h,?_⟩
  rw [List.take_add_one,List.take_zero,Ja h]
  rfl
 | k+1,h=>by
  obtain ⟨c,e1,e2⟩:=gS es k (by omega)
  rw [List.take_add_one,Ja h,Option.toList_some,jt,e2]
  have d1:es.getD (k+1) (0,[])=es[k+1]:=by rw [Jj,Ja h,Yi]
  have d2:es.getD (argBest (fun i j=>HT.lexLt (es.getD i (0,[])).2 (es.getD j (0,[])).2) k) (0,[])=c:=by rw [Jj,e1,Yi]
  by_cases hl:HT.lexLt es[k+1].2 c.2=true
  ·refine ⟨es[k+1],?_,by simp only [J3 hl]⟩
   rw [argBest,d1,d2,J3 hl]
   exact Ja h
  ·refine ⟨c,?_,by simp only [J0 hl]⟩
   rw [argBest,d1,d2,J0 hl]
   exact e1
def xJ (es:List (Addr × List Int)) : V:=match xW es with
 | none=>.non
 | some e=>.ref e.1
section
variable {X:Cx}
theorem lb {prog:Program} {w:World} {A:Around} {E:Value→Shared→Prop} {s:Shared} {id:String} {b:Builtin} {args:List Value} {kw:List (Str × Value)} {Q:Value→Shared→Prop} (hk:builtinKind id=none) (hp:plainId id=true)
  (hb:entryFor table id=some b) (ha:argsOk id ⟨args,kw⟩)
  (hc:wpAny (model prog w) A.in1 (b ⟨args,kw⟩) (fun fin s'=>match fin with
   | .done f=>(match (Except.ok f:Result) with | .ok (.ret v)=>Q v s' | .ok _=>False | .error e=>E e s')
   | .again c'=>c'.quiet=true∧codeAny (model prog w) A c' (fun r s'=>match r with | .ok (.ret v)=>Q v s' | .ok _=>False | .error e=>E e s') s') E s) :
  wpAny (model prog w) A (call (.builtin id) args kw) Q E s:=by
 refine wpAny_call (codeAny_call_builtin hp hb ?_)
 simp only [checkBuiltinCall,hk]
 cases hsig:Manifest.signature? id with
 | none=>exact Y0 hc
 | some sig =>
  have ha':Bind.checkArgs id sig ⟨args,kw⟩=pure ():=by simpa only [argsOk,hsig] using ha
  simp only [ha']
  exact Y0 hc
theorem ph (a d:Value) : argsOk "min" ⟨[a],[("default",d)]⟩:=by unfold argsOk;kernel_rfl
def rMinD (K:Ay) : List V→List V→Hp→VK→Prop:=fun xs zs H Q=>∃ l es,xs=[.ref l]∧zs=[.non]∧SqL K H l (es.map fun e:Addr × List Int=>V.ref e.1)∧(∀ e∈es,SqT K H e.1 (e.2.map V.int))∧Q (xJ es) H
theorem kg:∀ {es:List (Addr × List Int)} {us:List Value},Vals (es.map fun e=>V.ref e.1) us→us=es.map fun e=>Value.ref e.1
 | [],_,.nil=>rfl
 | e::es,_,.cons r t=>by
  cases (show _=Value.ref e.1 from r)
  rw [kg t]
  rfl
theorem pq (hc:X.calm=true) (hu:X.A.in1.units<cLine) : CallKR X (.builtin "min") ["default"] (rMinD X.K):=by
 intro pins s σ H xs zs us ws Q I r rz h
 obtain ⟨l,es,rfl,rfl,hq,ht,q⟩:=h
 obtain ⟨u,rfl,rx⟩:=vals1 r
 cases rx
 obtain ⟨d,rfl,rd⟩:=vals1 rz
 cases rd
 obtain ⟨its,rv,pl,hz⟩:=I.list hq
 have hits:=kg rv
 subst hits
 have hlt:l<s.heap.objs.size:=by obtain ⟨o,n,e,_⟩:=pl;exact Jv e
 have nm:(toString "min" ++ toString ".loop" : String) = "min.loop":=by decide
 show wpAny _ _ (call (.builtin "min") [.ref l] [("default",Value.none)]) _ _ _
 refine lb F.kind_min F.plain_min F.entry_min (ph _ _) ?_
 show wpAny _ X.A.in1 (Builtin.Builtins.bindParams "min" ["key","default"] 0 ⟨[],[("default",Value.none)]⟩ >>= _) _ _ s
 refine Jf (wpAny_of_eq (show Builtin.Builtins.bindParams "min" ["key","default"] 0 ⟨[],[("default",Value.none)]⟩=pure [none,some Value.none] from rfl) ?_)
 refine Jf (Y0 ?_)
 refine Jf (wpAny_pyIter_list pl.isList ?_)
 refine Jf (wpAny_newObj_type ?_)
 rw [nm]
 have hpush:∀ b o,s.heap.get? b=some o→((s.heap.push { cls:=.type "list_iterator",data:=.fields #[.ref l,.int 0 0] }).push { cls:=.type "list",data:=.seq ([] : List Value).toArray }).get? b=some o:=fun b o e=>Jh _ (Jh _ e)
 have hsz:(s.heap.push { cls:=.type "list_iterator",data:=.fields #[.ref l,.int 0 0] }).objs.size=s.heap.objs.size+1:=Heap.size_push ..
 refine Y0 ⟨plainId_quiet F.plain_min_loop _,nj (Walks.list (A:=X.A.in1) (I.ok.hd hc) s.heap.objs.size l (Nat.ne_of_lt hlt) (es.map fun e=>Value.ref e.1).toArray) (fun i j=>HT.lexLt (es.getD i (0,[])).2 (es.getD j (0,[])).2) .none _ ?_ ?_ ⟨⟨_,Jh _ (Heap.get?_push_size _ rfl),rfl,rfl⟩,(pl.isList.push _).push _⟩ (Heap.get?_push_size _ rfl) ?_⟩
 ·intro hm
  dsimp only at hm
  rw [hsz] at hm
  rcases List.mem_cons.mp hm with z | hm
  ·have z':(s.heap.objs.size+1:Nat)=s.heap.objs.size:=z
   omega
  ·rcases List.mem_cons.mp hm with z | hm
   ·exact absurd z.symm (Nat.ne_of_lt (Nat.lt_succ_of_lt hlt))
   ·cases hm
 ·intro i j vi vj s' Q' E' hG hi hj hq'
  have item:∀ {i:Nat} {v:Value},(es.map fun e=>Value.ref e.1).toArray[i]? = some v→∃ e,es.getD i (0,[])=e∧v=.ref e.1∧∃ its,IsTup s'.heap e.1 its∧IntsAre its.toList e.2:=fun {i v} h=>by
   rw [List.getElem?_toArray,Jw] at h
   cases e:es[i]? with
   | none=>rw [e] at h;cases h
   | some y =>
    rw [e] at h
    obtain ⟨its,rt,tp,_⟩:=I.tuple (ht y (List.mem_of_getElem? e))
    refine ⟨y,by rw [Jj,e,Yi],(Option.some.inj h).symm,its.toArray,?_,by simpa using intsAre_of rt⟩
    obtain ⟨o,ho,hc1,hc2⟩:=tp
    have hb:(y.1:Nat)<s.heap.objs.size:=Jv ho
    refine ⟨o,hG _ _ (fun z=>?_) (fun z=>?_) (hpush _ _ ho),hc1,hc2⟩
    ·exact absurd (Y5.mp z) (Nat.ne_of_lt hb)
    ·exact absurd (z.trans hsz) (Nat.ne_of_lt (Nat.lt_succ_of_lt hb))
  obtain ⟨e1,d1,rfl,it1,t1,n1⟩:=item hi
  obtain ⟨e2,d2,rfl,it2,t2,n2⟩:=item hj
  refine (HT.m3 t1 t2 n1 n2 hu ?_:wpAny (model X.prog X.w) X.A.in1 (compareOp .Lt (.ref e1.1) (.ref e2.1)) Q' E' s')
  dsimp only at hq'
  rw [d1,d2] at hq'
  exact hq'
 ·intro v h' tk h0 h1 hst
  have kp:∀ b o,s.heap.get? b=some o→h'.get? b=some o:=fun b o e=>by
   have hb:(b:Nat)<s.heap.objs.size:=Jv e
   refine hst b o (fun z=>?_) (fun z=>?_) (hpush b o e)
   ·exact absurd (Y5.mp z) (Nat.ne_of_lt hb)
   ·exact absurd (z.trans hsz) (Nat.ne_of_lt (Nat.lt_succ_of_lt hb))
  refine ⟨xJ es,H,I.kept kp,?_,q⟩
  by_cases z:es.length=0
  ·have ez:es=[]:=List.length_eq_zero_iff.mp z
   subst ez
   exact h0 rfl
  ·have hn : 0<(es.map fun e=>Value.ref e.1).toArray.size:=by rw [Jk,J9];omega
   have hv:=h1 hn
   obtain ⟨c,e1,e2⟩:=gS es (es.length-1) (by omega)
   rw [show es.length-1+1=es.length by omega,Y8] at e2
   rw [Jk,J9,List.getElem?_toArray,Jw,e1] at hv
   unfold xJ
   rw [e2]
   exact (Option.some.inj hv).symm
end
end L2
namespace L2
open PySem PySem.Spec PyProof.Rows
section
variable {X:Cx}
def rMulS:R2:=fun x y H Q=>∃ i n,x=.str i∧y=.int n∧0≤n∧n≤1000∧i.length≤1000∧∀ z:Str,z.length≤1000000→Q (.str z) H
theorem ow (xs:Array Nat) : ∀ (k:Nat) (acc:Array Nat),((List.replicate k xs).foldl (· ++ ·) acc).size=acc.size+k*xs.size
 | 0,acc=>by simp
 | k+1,acc=>by
  rw [List.replicate_succ,List.foldl_cons,ow xs k,Array.size_append,Nat.succ_mul]
  omega
theorem lj:OpR X (binaryOp .Mult) rMulS:=by
 intro pins s σ H x y v u Q I rx ry h
 obtain ⟨i,n,rfl,rfl,h0,h1,hl,q⟩:=h
 obtain ⟨t,rfl⟩:=rx
 obtain ⟨t',rfl⟩:=ry
 have hm:i.length*n.toNat≤1000*1000:=Nat.mul_le_mul hl (by omega)
 have hlen:(⟨(List.replicate n.toNat i.cps).foldl (· ++ ·) #[]⟩ : Str).length≤1000000:=by
  show ((List.replicate n.toNat i.cps).foldl (· ++ ·) #[]).size≤1000000
  rw [ow]
  have:i.cps.size=i.length:=rfl
  rw [this,Nat.mul_comm]
  simpa using hm
 have hnt:Builtin.Str.tooLong (i.length*n.toNat)=false:=by
  unfold Builtin.Str.tooLong
  exact Js (by have:sizeLine=16777216:=rfl;omega)
 refine PySem.P.mul_str (by simp only [Bool.or_eq_false_iff,decide_eq_false_iff_not];omega) (fun a _=>?_) (fun _ _=>hnt) ?_
 ·have:(i.length:Int)≤1000:=by omega
  have z:(1000000:Int)≤(2 ^ 63-1) / n:=by
   refine Int.le_ediv_of_mul_le (by omega) ?_
   have : 1000000*n≤1000000*1000:=Int.mul_le_mul_of_nonneg_left h1 (by decide)
   omega
  omega
 ·by_cases c:n<1
  ·rw [J3 c]
   exact ⟨by decide,⟨.str Str.empty,H,I.tok _,⟨_,rfl⟩,q _ (by decide)⟩⟩
  ·rw [J0 c]
   by_cases c2:(n==1 || i.length==0)=true
   ·rw [J3 c2]
    exact ⟨.str i,H,I,⟨_,rfl⟩,q _ (by omega)⟩
   ·rw [J0 c2]
    refine ⟨?_,⟨.str _,H,I.tok _,⟨_,rfl⟩,q _ hlen⟩⟩
    have:sizeLine=16777216:=rfl
    first
     | exact Js (by omega)
     | (unfold Builtin.Str.tooLong;exact Js (by omega))
     | omega
theorem ju:∀ {ns:List Nat} {n:Nat},n∈ns→∃ j,∃ h:j<ns.length,ns[j]=n∧(∀ m (hm:m<ns.length),m<j→ns[m]≠n)∧ns.eraseIdx j=ns.erase n
 | [],_,h=>nomatch h
 | k::ns,n,h=>by
  by_cases e:k=n
  ·subst e
   exact ⟨0,Nat.zero_lt_succ _,rfl,fun m _ h=>absurd h (Y7 _),by rw [List.erase_cons_head];rfl⟩
  ·have h':n∈ns:=(List.mem_cons.mp h).resolve_left fun z=>e z.symm
   obtain ⟨j,hj,a,b,c⟩:=ju h'
   refine ⟨j+1,Nat.succ_lt_succ hj,a,fun m hm hlt=>?_,?_⟩
   ·cases m with
    | zero=>exact e
    | succ m=>exact b m (Nat.lt_of_succ_lt_succ hm) (Nat.lt_of_succ_lt_succ hlt)
   ·rw [List.erase_cons_tail (by simpa using e),← c]
    rfl
theorem iE {α β:Type} (f : α→β) : ∀ (l:List α) (i:Nat),(l.eraseIdx i).map f=(l.map f).eraseIdx i
 | [],_=>rfl
 | _::_,0=>rfl
 | x::l,i+1=>congrArg (f x :: ·) (iE f l i)
def nv (n:Nat) : V:=.int (n:Nat)
def rRemove:V→List V→Hp→VK→Prop:=fun x vs H Q=>∃ (l:Addr) (ns:List Nat) (n:Nat),x=.ref l∧vs=[nv n]∧H l=some (.lst (ns.map nv))∧n∈ns∧Q .non (upd H l (.lst ((ns.erase n).map nv)))
theorem ox:∀ {ns:List Nat} {us:List Value},Vals (ns.map nv) us→∀ i (hi:i<us.length) (hn:i<ns.length),∃ t,us[i]=Value.int (ns[i] : Nat) t
 | [],_,_,_,_,hn=>absurd hn (Y7 _)
 | n::ns,_,.cons r t,0,_,_=>r
 | n::ns,_,.cons r t,i+1,hi,hn=>ox t i (Nat.lt_of_succ_lt_succ hi) (Nat.lt_of_succ_lt_succ hn)
theorem pw:MtM X "list.remove" rRemove:=by
 intro pins s σ H x vs v us Q I rx rv h
 obtain ⟨l,ns,n,rfl,rfl,hH,hn,q⟩:=h
 cases rx
 obtain ⟨u,rfl,ru⟩:=rv.one
 obtain ⟨tu,rfl⟩:=(show ∃ t,u=Value.int (n:Nat) t from ru)
 obtain ⟨z,its,k,r,hl,e⟩:=I.yY hH
 obtain ⟨j,hj,ej,hno,hera⟩:=ju hn
 have hlen:its.length=ns.length:=by rw [← hl,J9]
 have hi:∀ i (h:i<its.length),∃ t,its[i]=Value.int (ns[i]'(by omega) : Nat) t:=fun i h=>ox r i h (by omega)
 refine call_meets F.slot_list_remove ⟨_,e,rfl⟩ F.entry_list_remove (F.args_list_remove_2 _ _) (MeetsSeq.list_remove l its.toArray k (.int (n:Nat) tu) (fun y=>match y with | .int a _=>a==((n:Nat) : Int) | _=>false) (fun y hy=>?_) j (by rw [Jk];omega) ?_ (fun m hm hlt=>?_) (by rw [Jk];omega)) ⟨e,?_⟩
 ·obtain ⟨i,hi',rfl⟩:=Array.mem_iff_getElem.mp hy
  obtain ⟨t,et⟩:=hi i (by simpa using hi')
  have et':its.toArray[i]=Value.int (ns[i]'(by rw [Jk] at hi';omega) : Nat) t:=by simpa using et
  rw [et']
  exact MeetsSeq.EqGives.int _ _ _ _
 ·obtain ⟨t,et⟩:=hi j (by omega)
  have et':its.toArray[j]'(by rw [Jk];omega)=Value.int (ns[j] : Nat) t:=by simpa using et
  rw [et',ej]
  simp
 ·obtain ⟨t,et⟩:=hi m (by rw [Jk] at hm;exact hm)
  have et':its.toArray[m]=Value.int (ns[m]'(by rw [Jk] at hm;omega) : Nat) t:=by simpa using et
  rw [et']
  have:=hno m (by rw [Jk] at hm;omega) hlt
  simp only [beq_eq_false_iff_ne]
  omega
 ·refine ⟨.non,_,I.lset (its':=its.eraseIdx j) hH e ?_ ?_ ?_,rfl,q⟩
  ·rw [List.eraseIdxIfInBounds_toArray]
  ·rw [← hera,iE]
   exact r.eraseIdx j
  ·rw [J9]
   have:=List.length_erase_le (a:=n) (l:=ns)
   rw [J9] at z
   omega
end
end L2
namespace L2
open PySem PySem.W PySem.Calls PyProof.Rows
def wpf {α:Type} (f:Nat→Nat→Bool) (n:Nat) : KasT α→(α→Prop)→Prop
 | .ret a,Q=>Q a
 | .ask i j k,Q=>i<n∧j<n∧wpf f n (k (f i j)) Q
theorem eQ {α β:Type} {f:Nat→Nat→Bool} {n:Nat} {g : α→KasT β} {Q : β→Prop} : ∀ {t:KasT α},wpf f n t (fun a=>wpf f n (g a) Q)→wpf f n (t.bind g) Q
 | .ret _,h=>h
 | .ask _ _ _,h=>⟨h.1,h.2.1,eQ h.2.2⟩
theorem bX {α:Type} {f:Nat→Nat→Bool} {n:Nat} {Q R : α→Prop} (g:∀ a,Q a→R a) : ∀ {t:KasT α},wpf f n t Q→wpf f n t R
 | .ret a,h=>g a h
 | .ask _ _ _,h=>⟨h.1,h.2.1,bX g h.2.2⟩
theorem qU {α:Type} {cmp:Nat→Nat→(Bool→Shared→Prop)→Shared→Prop} {f:Nat→Nat→Bool} {n:Nat} {s:Shared} (hc:∀ i j,i<n→j<n→∀ C:Bool→Shared→Prop,C (f i j) s→cmp i j C s) {Q : α→Shared→Prop} :
  ∀ {t:KasT α},wpf f n t (fun a=>Q a s)→t.kasWp cmp Q s
 | .ret _,h=>h
 | .ask i j k,h=>hc i j h.1 h.2.1 _ (qU hc (t:=k (f i j)) h.2.2)
structure Ord (f:Nat→Nat→Bool) : Prop where
 tr:∀ i j k,f i j=false→f j k=false→f i k=false
 as:∀ i j,f i j=true→f j i=false
section
variable {f:Nat→Nat→Bool} {n:Nat} {p:Array Nat}
theorem Ord.rf (o:Ord f) (i:Nat) : f i i=false:=by
 cases h:f i i with
 | false=>rfl
 | true=>have:=o.as i i h;rw [h] at this;cases this
theorem Ord.lt (o:Ord f) {i j k:Nat} (a:f i j=true) (b:f k j=false) : f i k=true:=by
 cases h:f i k with
 | true=>rfl
 | false=>rw [o.tr i k j h b] at a;cases a
abbrev xat (p:Array Nat) (k:Nat) : Nat:=p.getD k 0
def Pm (n:Nat) (p:Array Nat) : Prop:=p.toList.Perm (List.range n)
theorem Pm.size (h:Pm n p) : p.size=n:=by have:=h.length_eq;rw [Yh] at this;exact this
theorem eK (p:Array Nat) (k:Nat) : xat p k=(p[k]?).getD 0:=by
 unfold xat
 rw [Array.getD_eq_getD_getElem?]
theorem Pm.lt (h:Pm n p) (hn : 0<n) (k:Nat) : xat p k<n:=by
 rw [eK]
 cases e:p[k]? with
 | none=>exact hn
 | some v =>
  have m:v∈p.toList:=by
   obtain ⟨hk,e⟩:=Array.getElem?_eq_some_iff.mp e
   rw [← e]
   exact Array.getElem_mem_toList hk
  exact Y3.mp (h.mem_iff.mp m)
theorem Pm.mem (h:Pm n p) {j:Nat} (hj:j<n) : ∃ i,i<n∧xat p i=j:=by
 have m:=h.mem_iff.mpr (Y3.mpr hj)
 obtain ⟨i,hi,e⟩:=List.getElem_of_mem m
 have hi':i<p.size:=hi
 refine ⟨i,by rw [← h.size];exact hi',?_⟩
 rw [eK,Array.getElem?_eq_getElem hi',Yi,← e]
 rfl
theorem Pm.rev (h:Pm n p) (i j:Nat) : Pm n (kas_rev p i j):=(Array.perm_iff_toList_perm.mp (mirror_perm p i j _)).trans h
theorem Pm.bub (h:Pm n p) (i j:Nat) : Pm n (bubble p i j):=(Array.perm_iff_toList_perm.mp (bubble_perm p i j)).trans h
theorem eE {i j:Nat} (hj:j≤p.size) (k:Nat) : xat (kas_rev p i j) k=if i≤k∧k<j then xat p (i+j-1-k) else xat p k:=by
 rw [eK,eK,eK]
 unfold kas_rev
 rw [getElem?_mirror_all hj]
 by_cases c:i≤k∧k<j
 ·rw [J3 c,J3 c]
 ·rw [J0 c,J0 c]
theorem i8 {k d:Nat} (hs:k<p.size) (hd:d≤k) (i:Nat) : xat (bubble p k d) i=if i=k-d then xat p k else if k-d<i∧i≤k then xat p (i-1) else xat p i:=by
 rw [eK,eK,eK,eK,getElem?_bubble hs d hd]
 by_cases c:i=k-d
 ·rw [J3 c,J3 c]
 ·rw [J0 c,J0 c]
  by_cases c2:k-d<i∧i≤k
  ·rw [J3 c2,J3 c2]
  ·rw [J0 c2,J0 c2]
def w8 (f:Nat→Nat→Bool) (p:Array Nat) (z k:Nat) : Prop:=∀ i,i<k→f (xat p i) (xat p z)=false
theorem nk (o:Ord f) (h:Pm n p) (hn : 0<n) : ∀ (fu a:Nat),1≤a→a+fu≤n→w8 f p 0 a→wpf f n (kas_asc p fu a) (fun m=>a≤m∧m≤n∧w8 f p 0 m∧(m<a+fu→f (xat p m) (xat p (m-1))=true)∧m≤a+fu)
 | 0,a,h1,h2,L=>⟨Jm _,by omega,L,fun q=>by omega,Jm _⟩
 | fu+1,a,h1,h2,L=>by
  unfold kas_asc
  refine ⟨h.lt hn _,h.lt hn _,?_⟩
  cases c:f (xat p a) (xat p (a-1)) with
  | true =>
   dsimp only
   rw [J3 rfl]
   exact ⟨Jm _,by omega,L,fun _=>c,by omega⟩
  | false =>
   dsimp only
   rw [J0 Jn]
   have L':w8 f p 0 (a+1):=fun i hi=>by
    by_cases e:i=a
    ·rw [e];exact o.tr _ _ _ c (L (a-1) (by omega))
    ·exact L i (by omega)
   refine bX (fun m ⟨q1,q2,q3,q4,q5⟩=>⟨by omega,q2,q3,fun z=>q4 (by omega),by omega⟩) (nk o h hn fu (a+1) (by omega) (by omega) L')
def Even (f:Nat→Nat→Bool) (p:Array Nat) (k q:Nat) : Prop:=q<k∧∀ i,k-1-q≤i→i<k→f (xat p (k-1)) (xat p i)=false
theorem i9 (o:Ord f) (hn : 0<n) : ∀ (fu:Nat) (p:Array Nat) (a q:Nat),Pm n p→1≤a→a+fu≤n→w8 f p (a-1) a→Even f p a q →
  wpf f n (kas_desc fu p a q) (fun r=>Pm n r.1∧a≤r.2.1∧r.2.1≤n∧w8 f r.1 (r.2.1-1) r.2.1∧Even f r.1 r.2.1 r.2.2)
 | 0,p,a,q,h,h1,h2,L,E=>⟨h,Jm _,by omega,L,E⟩
 | fu+1,p,a,q,h,h1,h2,L,E=>by
  unfold kas_desc
  refine ⟨h.lt hn _,h.lt hn _,?_⟩
  cases c:f (xat p a) (xat p (a-1)) with
  | true =>
   dsimp only
   rw [J3 rfl]
   have ev:∀ p',Even f p' (a+1) 0:=fun p'=>⟨by omega,fun i h1 h2=>by rw [show i=a+1-1 by omega];exact o.rf _⟩
   have lt:∀ i,i<a→f (xat p i) (xat p a)=false:=fun i hi=>o.tr _ _ _ (L i hi) (o.as _ _ c)
   by_cases hq:q > 0
   ·rw [J3 hq]
    have hsz:=h.size
    refine bX (fun r ⟨q1,q2,q3,q4,q5⟩=>⟨q1,by omega,q3,q4,q5⟩) (i9 o hn fu _ (a+1) 0 (h.rev _ _) (by omega) (by omega) (fun i hi=>?_) (ev _))
    rw [eE (by omega),eE (by omega),J0 (c:=a-(q+1)≤a+1-1∧a+1-1<a) (by omega),show a+1-1=a by omega]
    by_cases c2:a-(q+1)≤i∧i<a
    ·rw [J3 c2]
     exact lt _ (by have:=E.1;omega)
    ·rw [J0 c2]
     by_cases e:i=a
     ·rw [e];exact o.rf _
     ·exact lt i (by omega)
   ·rw [J0 hq]
    refine bX (fun r ⟨q1,q2,q3,q4,q5⟩=>⟨q1,by omega,q3,q4,q5⟩) (i9 o hn fu _ (a+1) 0 h (by omega) (by omega) (fun i hi=>?_) (ev _))
    rw [show a+1-1=a by omega]
    by_cases e:i=a
    ·rw [e];exact o.rf _
    ·exact lt i (by omega)
  | false =>
   dsimp only
   rw [J0 Jn]
   refine ⟨h.lt hn _,h.lt hn _,?_⟩
   cases c2:f (xat p (a-1)) (xat p a) with
   | true =>
    dsimp only
    rw [J3 rfl]
    exact ⟨h,Jm _,by show a≤n;omega,L,E⟩
   | false =>
    dsimp only
    rw [J0 Jn]
    refine bX (fun r ⟨q1,q2,q3,q4,q5⟩=>⟨q1,by omega,q3,q4,q5⟩) (i9 o hn fu p (a+1) (q+1) h (by omega) (by omega) (fun i hi=>?_) ⟨by have:=E.1;omega,fun i h3 h4=>?_⟩)
    ·rw [show a+1-1=a by omega]
     by_cases e:i=a
     ·rw [e];exact o.rf _
     ·exact o.tr _ _ _ (L i (by omega)) c2
    ·rw [show a+1-1=a by omega]
     by_cases e:i=a
     ·rw [e];exact o.rf _
     ·exact o.tr _ _ _ c (E.2 i (by omega) (by omega))
abbrev Good (f:Nat→Nat→Bool) (n:Nat) (r:Nat × Array Nat) : Prop:=Pm n r.2∧1≤r.1∧r.1≤n∧w8 f r.2 0 r.1
theorem ml (o:Ord f) (h:Pm n p) (hn : 0<n) {a:Nat} (h1 : 1≤a) (h2:a≤n) (L:w8 f p (a-1) a) : wpf f n (kas_tail3 a n p) (Good f n):=by
 unfold kas_tail3
 have hsz:=h.size
 have L':w8 f (kas_rev p 0 a) 0 a:=fun i hi=>by
  rw [eE (by omega),eE (by omega),J3 (by omega),J3 (by omega),show 0+a-1-0=a-1 by omega]
  exact L _ (by omega)
 exact eQ (bX (fun m ⟨q1,q2,q3,_⟩=>⟨h.rev _ _,by show 1≤m;omega,q2,q3⟩) (nk o (h.rev 0 a) hn (n-a) a h1 (by omega) L'))
theorem iP (o:Ord f) (h:Pm n p) {a:Nat} (h1 : 1≤a) (h2:a+1≤n) (L:w8 f p a (a+1)) : wpf f n (kas_descPart a n p) (Good f n):=by
 unfold kas_descPart
 refine eQ (bX (fun r ⟨q1,q2,q3,q4,q5⟩=>?_) (i9 o (by omega) (n-(a+1)) p (a+1) 0 h (by omega) (by omega) L ⟨by omega,fun i h3 h4=>by rw [show i=a+1-1 by omega];exact o.rf _⟩))
 have hsz:=q1.size
 by_cases c:r.2.2 > 0
 ·rw [J3 c]
  refine ml o (q1.rev _ _) (by omega) (by omega) q3 fun i hi=>?_
  have e1:=q5.1
  rw [eE (by omega),eE (by omega),J3 (c:=r.2.1-(r.2.2+1)≤r.2.1-1∧r.2.1-1<r.2.1) (by omega)]
  have le:=q5.2 (r.2.1-(r.2.2+1)+r.2.1-1-(r.2.1-1)) (by omega) (by omega)
  by_cases c2:r.2.1-(r.2.2+1)≤i∧i<r.2.1
  ·rw [J3 c2]
   exact o.tr _ _ _ (q4 _ (by omega)) le
  ·rw [J0 c2]
   exact o.tr _ _ _ (q4 _ hi) le
 ·rw [J0 c]
  exact ml o q1 (by omega) (by omega) q3 q4
theorem qV (o:Ord f) (h:Pm n p) (hn : 1≤n) : wpf f n (kas_count n p) (Good f n):=by
 unfold kas_count
 refine eQ (bX (fun m ⟨q1,q2,q3,q4,q5⟩=>?_) (nk o h hn (n-1) 1 (Jm _) (by omega) fun i hi=>by rw [show i=0 by omega];exact o.rf _))
 have hsz:=h.size
 by_cases c:(m==n)=true
 ·rw [J3 c]
  exact ⟨h,q1,q2,q3⟩
 ·rw [J0 c]
  have hm:m<n:=by
   have:m≠n:=fun z=>c (by rw [z];exact beq_self_eq_true _)
   omega
  have st:=q4 (by omega)
  by_cases c1:m > 1
  ·rw [J3 c1]
   refine ⟨h.lt hn _,h.lt hn _,?_⟩
   cases c2:f (xat p 0) (xat p (m-1)) with
   | true=>dsimp only;rw [J3 rfl];exact ⟨h,q1,q2,q3⟩
   | false =>
    dsimp only
    rw [J0 Jn]
    refine iP o (h.rev _ _) q1 hm fun i hi=>?_
    rw [eE (by omega),eE (by omega),J0 (c:=0≤m∧m<m) (by omega)]
    have le0:f (xat p 0) (xat p m)=false:=o.tr _ _ _ c2 (o.as _ _ st)
    by_cases c3 : 0≤i∧i<m
    ·rw [J3 c3]
     exact o.tr _ _ _ (q3 _ (by omega)) le0
    ·rw [J0 c3,show i=m by omega]
     exact o.rf _
  ·rw [J0 c1]
   have m1:m=1:=by omega
   subst m1
   refine iP o h (Jm _) hm fun i hi=>?_
   by_cases e:i=1
   ·rw [e];exact o.rf _
   ·rw [show i=0 by omega];exact o.as _ _ st
theorem ki (o:Ord f) (h:Pm n p) (hn : 0<n) {k:Nat} (L:w8 f p 0 k) (c:f (xat p k) (xat p 0)=true) : ∀ (fu r:Nat),r≤k→wpf f n (kas_place p k fu 0 r) (fun l=>l=0)
 | 0,r,hr=>rfl
 | fu+1,r,hr=>by
  unfold kas_place
  by_cases z : 0 ≥ r
  ·rw [J3 z];rfl
  ·rw [J0 z]
   refine ⟨h.lt hn _,h.lt hn _,?_⟩
   rw [show f (p.getD k 0) (p.getD ((0+r) / 2) 0)=true from o.lt c (L _ (by omega))]
   dsimp only
   rw [J3 rfl]
   exact ki o h hn L c fu _ (by omega)
theorem gi (h:Pm n p) (hn : 0<n) {k:Nat} (c:f (xat p k) (xat p 0)=false) : ∀ (fu l r:Nat),l≤r→r≤k→(1≤l∨(1≤r∧r≤fu))→wpf f n (kas_place p k fu l r) (fun l=>1≤l∧l≤k)
 | 0,l,r,h1,h2,h3=>⟨by omega,by omega⟩
 | fu+1,l,r,h1,h2,h3=>by
  unfold kas_place
  by_cases z:l ≥ r
  ·rw [J3 z];exact ⟨by omega,by omega⟩
  ·rw [J0 z]
   refine ⟨h.lt hn _,h.lt hn _,?_⟩
   cases c2:f (xat p k) (xat p ((l+r) / 2)) with
   | true =>
    dsimp only
    rw [J3 rfl]
    have:(l+r) / 2≠0:=fun e=>by rw [e,c] at c2;cases c2
    exact gi h hn c fu _ _ (by omega) (by omega) (by omega)
   | false =>
    dsimp only
    rw [J0 Jn]
    exact gi h hn c fu _ _ (by omega) (by omega) (by omega)
theorem nu (o:Ord f) (hn : 0<n) : ∀ (fu:Nat) (p:Array Nat) (k:Nat),Pm n p→1≤k→k+fu=n→w8 f p 0 k→wpf f n (kas_bin fu p k) (fun p'=>Pm n p'∧w8 f p' 0 n)
 | 0,p,k,h,h1,h2,L=>⟨h,by rw [← h2];exact L⟩
 | fu+1,p,k,h,h1,h2,L=>by
  unfold kas_bin
  have hsz:=h.size
  refine eQ ?_
  cases c:f (xat p k) (xat p 0) with
  | true =>
   refine bX (fun l hl=>?_) (ki o h hn L c k k (Jm _))
   subst hl
   refine nu o hn fu _ (k+1) (h.bub _ _) (by omega) (by omega) fun i hi=>?_
   rw [i8 (by omega) (by omega),i8 (by omega) (by omega),J3 (c:=0=k-(k-0)) (by omega)]
   have le:∀ j,j<k→f (xat p j) (xat p k)=false:=fun j hj=>o.tr _ _ _ (L j hj) (o.as _ _ c)
   by_cases e:i=k-(k-0)
   ·rw [J3 e];exact o.rf _
   ·rw [J0 e,J3 (by omega)]
    exact le _ (by omega)
  | false =>
   refine bX (fun l hl=>?_) (gi h hn c k 0 k (Nat.zero_le _) (Jm _) (.inr ⟨h1,Jm _⟩))
   obtain ⟨l1,l2⟩:=hl
   refine nu o hn fu _ (k+1) (h.bub _ _) (by omega) (by omega) fun i hi=>?_
   rw [i8 (by omega) (by omega),i8 (by omega) (by omega),J0 (c:=0=k-(k-l)) (by omega),J0 (c:=k-(k-l)<0∧0≤k) (by omega)]
   by_cases e:i=k-(k-l)
   ·rw [J3 e];exact c
   ·rw [J0 e]
    by_cases e2:k-(k-l)<i∧i≤k
    ·rw [J3 e2];exact L _ (by omega)
    ·rw [J0 e2];exact L _ (by omega)
theorem mq (n:Nat) : Pm n (List.toArray (List.range n)):=List.Perm.refl _
theorem ur (o:Ord f) (hn : 1≤n) : wpf f n (kas_sort n) (fun p=>Pm n p∧w8 f p 0 n):=by
 unfold kas_sort
 refine eQ (bX (fun r ⟨q1,q2,q3,q4⟩=>?_) (qV o (mq n) hn))
 by_cases c:r.1<n
 ·rw [J3 c]
  rw [show max r.1 1=r.1 by omega]
  exact nu o hn _ _ _ q1 q2 (by omega) q4
 ·rw [J0 c]
  refine ⟨q1,?_⟩
  rw [show n=r.1 by omega]
  exact q4
theorem qW (h:Pm n p) (hn : 1≤n) (L:w8 f p 0 n) : ∃ m rest,p.toList=m::rest∧m<n∧∀ j,j<n→f j m=false:=by
 have hsz:=h.size
 cases e:p.toList with
 | nil=>have:=congrArg List.length e;rw [Array.length_toList,hsz] at this;simp at this;omega
 | cons m rest =>
  have hm:xat p 0=m:=by
   rw [eK]
   have:p[0]? = p.toList[0]?:=by rw [Array.getElem?_toList]
   rw [this,e]
   rfl
  refine ⟨m,rest,rfl,?_,fun j hj=>?_⟩
  ·rw [← hm];exact h.lt hn 0
  ·obtain ⟨i,hi,ei⟩:=h.mem hj
   have:=L i hi
   rw [ei,hm] at this
   exact this
end
end L2
namespace L2
open PySem PySem.W PySem.Calls PyProof.Rows
section
variable {prog:Program} {w:World} {A:Around} {E:Value→Shared→Prop} {s:Shared} {vs:List Value} {f:Nat→Nat→Bool}
theorem few {k:Nat} (h:k<64) : k≤sizeLine:=by rw [sizeLine_eq];omega
abbrev void (h:Heap) (a:Addr) : Heap:=h.update a (Obj.mapSeq fun _=>(#[] : Array Value))
abbrev twin (h:Heap) (vs:List Value) : Heap:=((h.push (seqObj "list" #[] 0)).update h.objs.size (Obj.mapSeq (· ++ vs.toArray))).push (seqObj "list" vs.toArray 0)
theorem qX (h:Heap) (vs:List Value) : (twin h vs).get? (h.objs.size+1)=some (seqObj "list" vs.toArray 0):=by
 have e:((h.push (seqObj "list" #[] 0)).update h.objs.size (Obj.mapSeq (· ++ vs.toArray))).objs.size=h.objs.size+1:=by rw [Heap.size_update,Heap.size_push]
 unfold twin
 rw [← e]
 exact Heap.get?_push_size _ rfl
theorem pz {h:Heap} {vs:List Value} (b:Addr) (u:Obj) (q:h.get? b=some u) : (twin h vs).get? b=some u:=by
 have z:=Jv q
 refine Jh _ ?_
 rw [Heap.get?_update_ne _ _ _ _ (Nat.ne_of_lt z)]
 exact Jh _ q
def AskOk (prog:Program) (w:World) (A:Around) (vs:List Value) (f:Nat→Nat→Bool) (s:Shared) : Prop :=
 ∃ κ:SortKind,(∀ Q:SortKind→Shared→Prop,Q κ s→wpAny (model prog w) A (keyKind' vs.toArray) Q (fun _ _=>False) s)∧∀ i j,i<vs.length→j<vs.length→∀ C:Bool→Shared→Prop,C (f i j) s→kas_ask prog w A κ vs i j C s
structure Out (vs out:List Value) (f:Nat→Nat→Bool) (m:Nat) (is:List Nat) : Prop where
 eq:out=(m::is).map fun i=>vs.getD i Value.none
 lt:∀ i∈m::is,i<vs.length
 least:∀ j,j<vs.length→f j m=false
 len:out.length=vs.length
theorem iW {a:Addr} {n:Nat} {P:PySem.Fin→Shared→Prop} (o:Ord f) (ho:s.heap.get? a=some (seqObj "list" vs.toArray n)) (h1 : 1≤vs.length) (h64:vs.length<64)
  (hk : 2≤vs.length→∀ h':Heap,(∀ b u,b≠a→s.heap.get? b=some u→h'.get? b=some u)→AskOk prog w A vs f { s with heap:=h' })
  (h:∀ h' c out m is,(∀ b u,b≠a→s.heap.get? b=some u→h'.get? b=some u)→h'.get? a=some (seqObj "list" out.toArray c)→Out vs out f m is→P (.done (.ret .none)) { s with heap:=h' }) :
  wpAny (model prog w) A (Builtin.«list.sort» ⟨[Value.ref a],[]⟩) P E s:=by
 obtain ⟨e1,ho1⟩ : ∃ c,(void s.heap a).get? a=some (seqObj "list" #[] c):=⟨_,get?_update_seq ho fun _=>#[]⟩
 have k1:∀ b u,b≠a→s.heap.get? b=some u→(((void s.heap a).push (seqObj "tuple" vs.toArray 0)).push (seqObj "list" #[] 0)).get? b=some u :=
  fun b u ne e=>Jh _ (Jh _ (by rw [void,Heap.get?_update_ne _ _ _ _ ne];exact e))
 have na:(((void s.heap a).push (seqObj "tuple" vs.toArray 0)).push (seqObj "list" #[] 0)).get? a=some (seqObj "list" #[] e1):=Jh _ (Jh _ ho1)
 have hk:=fun h2=>hk h2 _ k1
 rw [list_sort_plain]
 refine Jf (listItems_at ho rfl (Jf (listUpdate_at ho rfl ?_ (few (by rw [Jk];exact h64)) (Nat.zero_le _))))
 refine Jf (seqEpoch_at ho1 rfl (Jf (wpAny_newTuple ?_ (few h64))))
 refine Jf (wpAny_newList (wpAny_holding ?_) (Nat.zero_le _))
 show wpAny _ A _ P E { s with heap:=((void s.heap a).push (seqObj "tuple" vs.toArray 0)).push (seqObj "list" #[] 0) }
 generalize ((void s.heap a).push (seqObj "tuple" vs.toArray 0)).push (seqObj "list" #[] 0)=h2 at k1 na hk
 dsimp only
 have fin:∀ (st':SortSt) (p:Array Nat),arrOf st'=p.map (kas_item (vs.toArray.zip vs.toArray))→failedOf st'=none→Pm vs.length p→w8 f p 0 vs.length →
   P (.done (.ret .none)) { s with heap:=h2.update a (Obj.mapSeq fun _=>(arrOf st').map (·.2)) }:=by
  intro st' p har hf hp L
  have hout:=kat_snds rfl har
  obtain ⟨m,is,e,hm,least⟩:=qW hp h1 L
  obtain ⟨c2,hc2⟩ : ∃ c2,(h2.update a (Obj.mapSeq fun _=>(arrOf st').map (·.2))).get? a=some (seqObj "list" ((arrOf st').map (·.2)) c2):=⟨_,get?_update_seq na fun _=>(arrOf st').map (·.2)⟩
  rw [hout] at hc2 ⊢
  refine h _ c2 _ m is (fun b u ne q=>by rw [Heap.get?_update_ne _ _ _ _ ne];exact k1 b u ne q) hc2 ⟨by rw [e],fun i hi=>?_,least,?_⟩
  ·rw [← e] at hi
   exact Y3.mp (hp.mem_iff.mp hi)
  ·rw [J9,Array.length_toList,hp.size]
 have step:∀ (st':SortSt) (p:Array Nat),arrOf st'=p.map (kas_item (vs.toArray.zip vs.toArray))→failedOf st'=none→Pm vs.length p→w8 f p 0 vs.length →
   wpAny (model prog w) A (do
    let __do_lift ← seqEpoch a
    have touched:Bool:=__do_lift != e1
    Builtin.List.listUpdate (Value.ref a) fun x=>Array.map (fun x=>x.snd) (arrOf st')
    have __do_jp:Unit→Sem PySem.Fin:=fun __r =>
     have __do_jp:=fun __r=>ret Value.none;
     if touched=true then do
      rule "list.sort.modified"
      let __r ← raiseErrorWords "ValueError" "list modified during sort"
      __do_jp __r
     else __do_jp ()
    match failedOf st' with
     | some e=>do
      rule "list.sort.comparison-raised"
      let __r ← throw e
      __do_jp __r
     | x=>__do_jp ()) P E { s with heap:=h2 }:=by
  intro st' p har hf hp L
  have hsz:((arrOf st').map (·.2)).size=vs.length:=by rw [har,Array.size_map,Array.size_map,hp.size]
  refine Jf (seqEpoch_at na rfl ?_)
  refine Jf (listUpdate_at na rfl ?_ (Nat.zero_le _) (Ju (Nat.le_of_eq hsz) (Nat.le_succ_of_le (few h64))))
  rw [hf]
  simp only [bne_self_eq_false,J0 Jn]
  exact Y0 (fin st' p har hf hp L)
 by_cases h2' : 2≤vs.length
 ·have hn2:¬ vs.toArray.size<2:=by rw [Jk];omega
  rw [J0 hn2,J0 hn2]
  obtain ⟨κ,hκ,hask⟩:=hk h2'
  refine Jf (wpAny_mono (hκ _ ?_) (fun κ s' q=>q) fun _ _ x=>x.elim)
  refine Jf (wpAny_mono (kat_run (Q:=fun st' s'=>s'={ s with heap:=h2 }∧∃ p:Array Nat,arrOf st'=p.map (kas_item (vs.toArray.zip vs.toArray))∧failedOf st'=none∧Pm vs.length p∧w8 f p 0 vs.length) (G:=fun p s'=>s'={ s with heap:=h2 }∧Pm vs.length p∧w8 f p 0 vs.length)
   rfl h2' h64 (fun p' st' s' a1 a2 a3 a4=>⟨a4.1,p',a2,a3,a4.2⟩) (qU (Q:=fun p s'=>s'={ s with heap:=h2 }∧Pm vs.length p∧w8 f p 0 vs.length) hask (bX (fun p q=>⟨rfl,q⟩) (ur o h1)))) ?_ fun _ _ e=>e)
  rintro ⟨⟨⟩,st'⟩ s' ⟨es,p,har,hf,hp,L⟩
  have es':s'={ s with heap:=h2 }:=es
  subst es'
  exact step st' p har hf hp L
 ·have hn2:vs.toArray.size<2:=by rw [Jk];omega
  rw [J3 hn2,J3 hn2]
  refine Jf (Y0 (?_:wpAny _ _ _ _ _ _))
  rw [StateT.run_pure]
  refine Jf (Y0 (?_:wpAny _ _ _ _ _ _))
  refine step (SortSt.mk' general' (vs.toArray.zip vs.toArray) #[] 7 none) (List.toArray (List.range vs.length)) ?_ rfl (mq _) fun i hi=>?_
  ·have e:=kas_range (vs.toArray.zip vs.toArray)
   rw [show (vs.toArray.zip vs.toArray).size=vs.length by simp] at e
   show vs.toArray.zip vs.toArray=_
   rw [e]
  ·rw [show i=0 by omega]
   exact o.rf _
theorem lp {l:Addr} {Q:Value→Shared→Prop} (o:Ord f) (hl:s.heap.IsList l vs.toArray) (h1 : 1≤vs.length) (h64:vs.length<64)
  (hk:∀ h':Heap,(∀ b u,s.heap.get? b=some u→h'.get? b=some u)→AskOk prog w A.in1.in1 vs f { s with heap:=h' })
  (h:∀ h' D c out m is,(∀ b u,s.heap.get? b=some u→h'.get? b=some u)→s.heap.objs.size≤D→h'.get? D=some (seqObj "list" out.toArray c)→Out vs out f m is→Q (.ref D) { s with heap:=h' }) :
  wpAny (model prog w) A (call (.builtin "sorted") [Value.ref l]) Q E s:=by
 refine Calls.call_function_entry kind_sorted plain_sorted entry_sorted (args_sorted1 (.ref l)) ?_
 unfold Builtin.«sorted»
 refine Jf (m:=checkCount "sorted" 1 1 _) (Y0 (Jf (collect_list hl (Jf (wpAny_newList ?_ (few h64))) (few h64))))
 have sz:((s.heap.push (seqObj "list" #[] 0)).update s.heap.objs.size (Obj.mapSeq (· ++ vs.toArray))).objs.size=s.heap.objs.size+1:=by rw [Heap.size_update,Heap.size_push]
 have new:=qX s.heap vs
 have keep:=@pz s.heap vs
 show wpAny _ _ _ _ _ { s with heap:=twin s.heap vs }
 rw [sz]
 generalize twin s.heap vs=h2 at new keep
 have ne:∀ b u,s.heap.get? b=some u→b≠s.heap.objs.size+1:=fun b u q=>Nat.ne_of_lt (Nat.lt_succ_of_lt (Jv q))
 refine Jf (wpAny_holding (wpAny_call_entry slot_list_sort ⟨_,new,rfl⟩ entry_list_sort ?go (args_list_sort _)))
 case go =>
  refine iW (s:={ s with heap:=h2 }) o new h1 h64 (fun _ h' k=>hk h' fun b u q=>k b u (ne b u q) (keep b u q)) fun h' c out m is k hc ho=>?_
  exact ⟨_,rfl,Y0 ⟨_,rfl,h h' _ c out m is (fun b u q=>k b u (ne b u q) (keep b u q)) (Nat.le_succ _) hc ho⟩⟩
end
def x4 (es:List (Addr × Int × Int)) (i j:Nat) : Bool:=HT.lexLt [(es.getD i (0,0,0)).2.1,(es.getD i (0,0,0)).2.2] [(es.getD j (0,0,0)).2.1,(es.getD j (0,0,0)).2.2]
theorem yZ (a b c d:Int) : HT.lexLt [a,b] [c,d]=if a=c then decide (b<d) else decide (a<c):=by
 rw [HT.d0,HT.d0,HT.eJ]
 by_cases e:a=c
 ·rw [J3 e,J3 e]
  by_cases e2:b=d
  ·rw [J3 e2,e2];simp
  ·rw [J0 e2]
 ·rw [J0 e,J0 e]
theorem qY {a b c d:Int} : HT.lexLt [a,b] [c,d]=true↔a<c∨(a=c∧b<d):=by
 rw [yZ]
 by_cases e:a=c
 ·rw [J3 e,Jx];omega
 ·rw [J0 e,Jx];omega
theorem jv {a b c d:Int} : HT.lexLt [a,b] [c,d]=false↔¬ (a<c∨(a=c∧b<d)):=by
 rw [← qY,Bool.not_eq_true]
theorem qZ (es:List (Addr × Int × Int)) : Ord (x4 es) where
 tr i j k:=by
  unfold x4
  generalize es.getD i (0,0,0)=x
  generalize es.getD j (0,0,0)=y
  generalize es.getD k (0,0,0)=z
  rw [jv,jv,jv]
  omega
 as i j:=by
  unfold x4
  generalize es.getD i (0,0,0)=x
  generalize es.getD j (0,0,0)=y
  rw [jv,qY]
  omega
section
variable {prog:Program} {w:World} {A:Around} {s:Shared}
def yt (h:Heap) (e:Addr × Int × Int) : Prop:=∃ t u,IsTup h e.1 #[.int e.2.1 t,.int e.2.2 u]
theorem kj {h:Heap} : ∀ {es:List (Addr × Int × Int)},(∀ e∈es,yt h e)→∃ fs,KatTups h (es.map fun e=>Value.ref e.1) fs∧fs.length=es.length∧∀ v∈fs,∃ i t,v=Value.int i t
 | [],_=>⟨[],.nil,rfl,fun v h=>by cases h⟩
 | e::es,ht=>by
  obtain ⟨fs,k,l,f⟩:=kj (es:=es) fun e he=>ht e (Jd _ he)
  obtain ⟨t,u,o,ho,hc,n,hd⟩:=ht e Jb
  refine ⟨.int e.2.1 t::fs,.cons ho hc hd rfl k,by simp [l],fun v hv=>?_⟩
  rcases List.mem_cons.mp hv with z | z
  ·exact ⟨_,_,z⟩
  ·exact f v z
theorem pA {es:List (Addr × Int × Int)} (ht:∀ e∈es,yt s.heap e) (h1 : 1≤es.length) : AskOk prog w A (es.map fun e=>Value.ref e.1) (x4 es) s:=by
 obtain ⟨fs,kt,kl,kf⟩:=kj ht
 refine ⟨_,fun Q hq=>kat_kind (T:=.type "int") kt (by omega) (fun v hv=>?_) rfl hq,fun i j hi hj C hC=>?_⟩
 ·obtain ⟨i,t,rfl⟩:=kf v hv
  exact .now
 rw [J9] at hi hj
 have item:∀ {i:Nat},i<es.length→∃ e,es.getD i (0,0,0)=e∧(es.map fun e=>Value.ref e.1).getD i Value.none=.ref e.1∧yt s.heap e:=fun {i} h=>by
  refine ⟨es[i],by rw [Jj,Ja h,Yi],?_,ht _ (Yf h)⟩
  rw [Jj,Jw,Ja h,Option.map_some,Yi]
 obtain ⟨e,d1,v1,t1,u1,o1,g1,c1,n1,x1⟩:=item hi
 obtain ⟨e',d2,v2,t2,u2,o2,g2,c2,n2,x2⟩:=item hj
 unfold x4 at hC
 rw [d1,d2,yZ] at hC
 unfold kas_ask
 rw [v1,v2]
 refine kat_lt g1 x1 g2 x2 (kat_cons (wpAny_eqBool_int ?_))
 by_cases c:e.2.1=e'.2.1
 ·rw [J3 c] at hC
  rw [c,beq_self_eq_true]
  refine kat_yes (kat_cons (wpAny_eqBool_int ?_))
  by_cases c2:e.2.2=e'.2.2
  ·rw [c2,beq_self_eq_true]
   refine kat_yes (kat_nil ?_)
   rw [c2] at hC
   simpa using hC
  ·rw [beq_eq_false_iff_ne.mpr c2]
   exact kat_no (kat_one _ _ (PyProof.Rows.lt_int hC))
 ·rw [J0 c] at hC
  rw [beq_eq_false_iff_ne.mpr c]
  exact kat_no (oneLt_int hC)
end
theorem vx {X:Cx} {pins:List (Addr × Obj)} {σ:St} {H:Hp} {s:Shared} {e:Addr × Int × Int} (I:Inv X pins σ H s) (h:SqT X.K H e.1 [.int e.2.1,.int e.2.2]) : yt s.heap e:=by
 obtain ⟨its,r,tp,_⟩:=I.tuple h
 obtain ⟨u1,u2,rfl,r1,r2⟩:=vals2 r
 obtain ⟨t1,rfl⟩:=r1
 obtain ⟨t2,rfl⟩:=r2
 exact ⟨t1,t2,tp⟩
theorem jw:∀ {es:List (Addr × Int × Int)} {us:List Value},Vals (es.map fun e=>V.ref e.1) us→us=es.map fun e=>Value.ref e.1
 | [],_,.nil=>rfl
 | e::es,_,.cons r t=>by
  cases (show _=Value.ref e.1 from r)
  rw [jw t]
  rfl
theorem ko {es:List (Addr × Int × Int)} : ∀ {is:List Nat},(∀ i∈is,i<es.length)→Vals (is.map fun i=>V.ref (es.getD i (0,0,0)).1) (is.map fun i=>(es.map fun e=>Value.ref e.1).getD i Value.none)
 | [],_=>.nil
 | i::is,h=>.cons (by
   have hi:=h i Jb
   show (es.map fun e=>Value.ref e.1).getD i Value.none=Value.ref (es.getD i (0,0,0)).1
   rw [Jj,Jw,Ja hi,Option.map_some,Yi,Jj,Ja hi,Yi]) (ko fun j hj=>h j (Jd _ hj))
def rSortedT (K:Ay) : List V→Hp→VK→Prop:=fun xs H Q=>∃ (p:Addr) (es:List (Addr × Int × Int)),xs=[.ref p]∧SqL K H p (es.map fun e=>V.ref e.1)∧(∀ e∈es,SqT K H e.1 [.int e.2.1,.int e.2.2])∧1≤es.length∧es.length<64 ∧
 ∀ l e rest,H l=none→e∈es→(∀ e'∈es,HT.lexLt [e'.2.1,e'.2.2] [e.2.1,e.2.2]=false)→Q (.ref l) (upd H l (.lst (.ref e.1::rest)))
theorem lr {X:Cx} : xU X (.builtin "sorted") (rSortedT X.K):=by
 intro pins s σ H ys us Q I r h
 obtain ⟨p,es,rfl,hq,ht,h1,h64,q⟩:=h
 obtain ⟨u,rfl,rp⟩:=vals1 r
 cases rp
 obtain ⟨its,rv,pl,hz⟩:=I.list hq
 have hits:=jw rv
 subst hits
 have hl:(es.map fun e=>Value.ref e.1).length=es.length:=J9 _
 refine lp (qZ es) pl.isList (by rw [hl];exact h1) (by rw [hl];exact h64) (fun h' k=>pA (fun e he=>?_) h1) fun h' D c out m is k hD hg O=>?_
 ·obtain ⟨t1,t2,o,ho,w⟩:=vx I (ht e he)
  exact ⟨t1,t2,o,k _ _ ho,w⟩
 have lt:∀ i∈m::is,i<es.length:=fun i hi=>by have:=O.lt i hi;rw [hl] at this;exact this
 have hm:=lt m Jb
 have em:es.getD m (0,0,0)=es[m]:=by rw [Jj,Ja hm,Yi]
 have vp:=ko lt
 rw [← O.eq,List.map_cons,em] at vp
 refine ⟨.ref D,_,I.laid (t':=s.toks) (o:=.lst (.ref es[m].1::is.map fun i=>V.ref (es.getD i (0,0,0)).1)) k hD ?_,rfl,q D es[m] _ (I.hok.fresh hD) (Yf hm) fun e' he=>?_⟩
 ·have le:=O.len
  have lv:=vp.length
  rw [hl] at le
  exact ⟨by rw [lv,le];exact few h64,_,c,vp,hg⟩
 ·obtain ⟨j,hj,e⟩:=List.getElem_of_mem he
  have z:=O.least j (by rw [hl];exact hj)
  unfold x4 at z
  rw [em,Jj,Ja hj,Yi,e] at z
  exact z
end L2
namespace Kp
open PySem L2
inductive Stt where
 | held | taken | waiting | gone
 deriving DecidableEq
def Stt.txt:Stt→Str
 | .held=>"held"
 | .taken=>"taken"
 | .waiting=>"waiting"
 | .gone=>"gone"
structure Rec where
 who:Str
 shw:Nat
 many:Int
 span:Int
 st:Stt
 til:Option Int
def Rec.kept (r:Rec) : Bool:=decide (r.st=.held) || decide (r.st=.taken)
structure vY where
 rooms:List Int
 all:List Rec
 rows:List (List Nat)
 now:Int
inductive Dt where
 | int (i:Int) | str (x:Str) | non | seq (k:Bool) (ds:List Dt)
abbrev Dt.lst (ds:List Dt) : Dt:=.seq true ds
abbrev Dt.tup (ds:List Dt) : Dt:=.seq false ds
def xx:Rec:=⟨"",0,0,0,.gone,none⟩
def vY.at (b:vY) (n:Nat) : Rec:=b.all.getD n xx
def xh (s:Nat) (rs:List Rec) : Int:=((rs.filter fun r=>decide (r.shw=s) && r.kept).map Rec.many).sum
def vY.spare (b:vY) (s:Nat) : Int:=b.rooms.getD s 0-xh s b.all
def Rec.hold (r:Rec) (now:Int) : Rec:={ r with st:=.held,til:=some (now+r.span) }
def vY.hold (b:vY) (n:Nat) : vY:={ b with all:=b.all.set n ((b.at n).hold b.now) }
def vY.w6 (s:Nat) : vY→List Nat→vY × List Nat
 | b,[]=>({ b with rows:=b.rows.set s [] },[])
 | b,n::r=>if (b.at n).many≤b.spare s then ((w6 s (b.hold n) r).1,n::(w6 s (b.hold n) r).2) else ({ b with rows:=b.rows.set s (n::r) },[])
def vY.serve (b:vY) (s:Nat) : vY × List Nat:=b.w6 s (b.rows.getD s [])
def vY.unrow (b:vY) (n:Nat) : vY:=if (b.at n).st=.waiting then { b with rows:=b.rows.set (b.at n).shw ((b.rows.getD (b.at n).shw []).erase n) } else b
def vY.leave (b:vY) (n:Nat) : vY × List Nat:=vY.serve { b.unrow n with all:=b.all.set n { b.at n with st:=.gone,til:=none } } (b.at n).shw
def yU (a c:Int × Nat) : Bool:=if a.1=c.1 then decide (a.2<c.2) else decide (a.1<c.1)
def heldBy (t:Int) : Nat→List Rec→List (Int × Nat)
 | _,[]=>[]
 | k,r::rs=>match r.st,r.til with
  | .held,some u=>if u≤t then (u,k)::heldBy t (k+1) rs else heldBy t (k+1) rs
  | _,_=>heldBy t (k+1) rs
def xi:List (Int × Nat)→Option (Int × Nat)
 | []=>none
 | p::ps=>match xi ps with
  | none=>some p
  | some q=>if yU q p=true then some q else some p
def vY.first (b:vY) (t:Int) : Option (Int × Nat):=xi (heldBy t 0 b.all)
abbrev Told:=List (Int × Nat × Bool)
def vY.wj (t:Int) : Nat→vY→vY × Told
 | 0,b=>({ b with now:=t },[])
 | k+1,b=>match b.first t with
  | none=>({ b with now:=t },[])
  | some (u,n)=>((wj t k (vY.leave { b with now:=u } n).1).1,(u,n,false)::((vY.leave { b with now:=u } n).2.map fun m=>(u,m,true))++(wj t k (vY.leave { b with now:=u } n).1).2)
def vY.clock (b:vY) (t:Int) : vY × Told:=b.wj t b.all.length
inductive wd where
 | keep (who:Str) (show_ many span:Int)
 | take (n:Int)
 | back (n:Int)
 | part (n many:Int)
 | move (n show_:Int)
 | pass (n:Int) (who:Str)
 | clock (t:Int)
 | free (s:Int)
 | row (s:Int)
 | state (n:Int)
def wd.dt:wd→Dt
 | .keep w s m p=>.tup [.str "keep",.str w,.int s,.int m,.int p]
 | .take n=>.tup [.str "take",.int n]
 | .back n=>.tup [.str "back",.int n]
 | .part n m=>.tup [.str "part",.int n,.int m]
 | .move n s=>.tup [.str "move",.int n,.int s]
 | .pass n w=>.tup [.str "pass",.int n,.str w]
 | .clock t=>.tup [.str "clock",.int t]
 | .free s=>.tup [.str "free",.int s]
 | .row s=>.tup [.str "row",.int s]
 | .state n=>.tup [.str "state",.int n]
def x5:Option Int→Dt
 | none=>.non
 | some u=>.int u
def wY (ns:List Nat) : Dt:=.lst (ns.map fun n=>.int (n:Nat))
def w9 (ts:Told) : Dt:=.lst (ts.map fun t=>.tup [.int t.1,.int (t.2.1:Nat),.str (if t.2.2=true then "held" else "lapsed")])
def vY.wo (b:vY) (s:Int) : Bool:=decide (0≤s) && decide (s<b.rooms.length)
def vY.wZ (b:vY) (n:Int) : Bool:=decide (0≤n) && decide (n<b.all.length)
def vY.live (b:vY) (n:Int) : Bool:=b.wZ n && decide ((b.at n.toNat).st≠.gone)
def vY.enter (b:vY) (w:Str) (s m p:Int) : vY × Dt :=
 if b.wo s=false then (b,.str "no show")
 else if m<1 then (b,.str "no places")
 else if b.rooms.getD s.toNat 0<m then (b,.str "too many")
 else if p<1 then (b,.str "no span")
 else
  let c:=vY.serve { b with all:=b.all++[⟨w,s.toNat,m,p,.waiting,none⟩],rows:=b.rows.set s.toNat (b.rows.getD s.toNat []++[b.all.length]) } s.toNat
  (c.1,.tup [.int (b.all.length:Nat),.str (c.1.at b.all.length).st.txt])
def vY.moveTo (b:vY) (n:Nat) (s:Int) : vY × Dt :=
 if b.wo s=false then (b,.str "no show")
 else if (b.at n).st=.waiting then (b,.str "not held")
 else if ((b.at n).shw:Int)=s then (b,.str "same show")
 else if b.rows.getD s.toNat []≠[]∨b.spare s.toNat<(b.at n).many then (b,.str "full")
 else
  let c:=vY.serve { b with all:=b.all.set n { b.at n with shw:=s.toNat } } (b.at n).shw
  (c.1,wY c.2)
def vY.wV (b:vY) (n:Nat) (m:Int) : vY × Dt :=
 if m<1 then (b,.str "no places")
 else if (b.at n).many≤m then (b,.str "too many")
 else
  let c:=vY.serve { b with all:=b.all.set n { b.at n with many:=(b.at n).many-m } } (b.at n).shw
  (c.1,wY c.2)
def vY.wW (b:vY) (n:Nat) : vY × Dt :=
 if (b.at n).st=.held then ({ b with all:=b.all.set n { b.at n with st:=.taken,til:=none } },.str "taken") else (b,.str "not held")
def vY.done (b:vY) : wd→vY × Dt
 | .keep w s m p=>b.enter w s m p
 | .take n=>if b.live n=false then (b,.str "no keeping") else b.wW n.toNat
 | .back n=>if b.live n=false then (b,.str "no keeping") else ((b.leave n.toNat).1,wY (b.leave n.toNat).2)
 | .part n m=>if b.live n=false then (b,.str "no keeping") else b.wV n.toNat m
 | .move n s=>if b.live n=false then (b,.str "no keeping") else b.moveTo n.toNat s
 | .pass n w=>if b.live n=false then (b,.str "no keeping") else ({ b with all:=b.all.set n.toNat { b.at n.toNat with who:=w } },.str "passed")
 | .clock t=>if t<b.now then (b,.str "too early") else ((b.clock t).1,w9 (b.clock t).2)
 | .free s=>if b.wo s=false then (b,.str "no show") else (b,.int (b.spare s.toNat))
 | .row s=>if b.wo s=false then (b,.str "no show") else (b,wY (b.rows.getD s.toNat []))
 | .state n=>if b.wZ n=false then (b,.str "no keeping") else
   (b,.tup [.str (b.at n.toNat).who,.int ((b.at n.toNat).shw:Nat),.int (b.at n.toNat).many,.str (b.at n.toNat).st.txt,x5 (b.at n.toNat).til])
def vY.begun (rooms:List Int) : vY:=⟨rooms,[],rooms.map fun _=>[],0⟩
def vY.run:vY→List wd→vY × List Dt
 | b,[]=>(b,[])
 | b,d::ds=>(((b.done d).1.run ds).1,(b.done d).2::((b.done d).1.run ds).2)
end Kp
namespace Kp
open PySem L2
theorem ifF {b:Bool} {A B:Prop} (h:b=false) (q:B) : if b=true then A else B:=by subst h;exact yo q
theorem ifT {b:Bool} {A B:Prop} (h:b=true) (q:A) : if b=true then A else B:=by subst h;exact xq q
theorem big {n:Nat} (h:n≤1000000) : n<sizeLine:=Nat.lt_of_le_of_lt h (by decide)
theorem big' {n:Nat} (h:n≤1000000) : n≤sizeLine:=Y9 (big h)
structure Each {α β:Type} (P : α→β→Prop) (xs:List α) (ys:List β) : Prop where
 len:xs.length=ys.length
 at_:∀ (i:Nat) (x : α) (y : β),xs[i]? = some x→ys[i]? = some y→P x y
theorem Each.nil {α β:Type} {P : α→β→Prop} : Each P [] []:=⟨rfl,fun i x y h=>by simp at h⟩
theorem Each.mono {α β:Type} {P Q : α→β→Prop} {xs:List α} {ys:List β} (h:Each P xs ys) (g:∀ x∈xs,∀ y,P x y→Q x y) : Each Q xs ys :=
 ⟨h.len,fun i x y hx hy=>g x (List.mem_of_getElem? hx) y (h.at_ i x y hx hy)⟩
theorem Each.get {α β:Type} {P : α→β→Prop} {xs:List α} {ys:List β} (h:Each P xs ys) {i:Nat} (hi:i<ys.length) : ∃ x,xs[i]? = some x∧P x ys[i]:=by
 have hx:i<xs.length:=by rw [h.len];exact hi
 exact ⟨xs[i],Ja hx,h.at_ i _ _ (Ja hx) (Ja hi)⟩
theorem Each.snoc {α β:Type} {P : α→β→Prop} {xs:List α} {ys:List β} {x : α} {y : β} (h:Each P xs ys) (g:P x y) : Each P (xs++[x]) (ys++[y]):=by
 refine ⟨by simp [h.len],fun j u v hu hv=>?_⟩
 by_cases e:j<xs.length
 ·rw [List.getElem?_append_left e] at hu
  rw [List.getElem?_append_left (by rw [← h.len];exact e)] at hv
  exact h.at_ j u v hu hv
 ·have hj:j=xs.length:=by
   have:=(Jg.mp hu).1
   rw [Jc,Jo] at this
   omega
  subst hj
  rw [List.getElem?_concat_length] at hu
  rw [h.len,List.getElem?_concat_length] at hv
  cases hu
  cases hv
  exact g
def xr:Option Int→V
 | none=>.non
 | some u=>.int u
def wL (r:Rec) : List V:=[.str r.who,.int (r.shw:Nat),.int r.many,.int r.span,.str r.st.txt,xr r.til]
structure Adr where
 R:Addr
 A:Addr
 W:Addr
 recs:List Addr
 rws:List Addr
def Adr.own (a:Adr) : List Addr:=a.A::a.W::(a.recs++a.rws)
def xf (a:Adr) (now:Int) : List (Key × V):=[(.inr "rooms",.ref a.R),(.inr "all",.ref a.A),(.inr "rows",.ref a.W),(.inr "now",.int now)]
structure Pic (H:Hp) (d:Addr) (a:Adr) (b:vY) : Prop where
 dict:H d=some (.dK (xf a b.now))
 rooms:H a.R=some (.lst (b.rooms.map V.int))
 all:H a.A=some (.lst (a.recs.map V.ref))
 rows:H a.W=some (.lst (a.rws.map V.ref))
 recs:Each (fun p r=>H p=some (.lst (wL r))) a.recs b.all
 rws:Each (fun p ns=>H p=some (.lst (ns.map nv))) a.rws b.rows
 nd:(a.R::a.own).Nodup
 one:b.rooms.length=b.rows.length
def foot (d:Addr) (a:Adr) : List Addr:=d::a.own
def wH (F:List Addr) (H H':Hp) : Prop:=∀ x o,H x=some o→x∉F→H' x=some o
def Ext (H:Hp) (F F':List Addr) : Prop:=∀ x∈F',x∈F∨H x=none
theorem wH.refl {F:List Addr} {H:Hp} : wH F H H:=fun _ _ h _=>h
theorem Ext.refl {F:List Addr} {H:Hp} : Ext H F F:=fun _ h=>.inl h
theorem xy {F:List Addr} {H H':Hp} (g:wm H H') : wH F H H':=fun x o h _=>g x o h
theorem wH.trans {F F1:List Addr} {H H1 H2:Hp} (a:wH F H H1) (e:Ext H F F1) (b:wH F1 H1 H2) : wH F H H2:=fun x o h n=>by
 refine b x o (a x o h n) fun m=>?_
 rcases e x m with q | q
 ·exact n q
 ·rw [h] at q;cases q
theorem Ext.trans {F F1 F2:List Addr} {H H1:Hp} (a:wH F H H1) (e:Ext H F F1) (f:Ext H1 F1 F2) : Ext H F F2:=fun x m=>by
 rcases f x m with q | q
 ·exact e x q
 ·by_cases n:x∈F
  ·exact .inl n
  ·right
   cases h:H x with
   | none=>rfl
   | some o=>rw [a x o h n] at q;cases q
theorem wH.same {F:List Addr} {H H1 H2:Hp} (a:wH F H H1) (g:wm H1 H2) : wH F H H2:=fun x o h n=>g x o (a x o h n)
theorem wH.put {F:List Addr} {H H':Hp} {x:Addr} (a:wH F H H') (m:x∈F∨H x=none) (o:HO) : wH F H (upd H' x o):=fun y u h n=>by
 have ne:y≠x:=fun e=>by
  subst e
  rcases m with m | m
  ·exact n m
  ·rw [h] at m;cases m
 rw [ao ne]
 exact a y u h n
theorem kne1:¬ ((Sum.inr "rooms" : Key)=(Sum.inr "all" : Key)):=by decide +kernel
theorem kne2:¬ ((Sum.inr "rooms" : Key)=(Sum.inr "rows" : Key)):=by decide +kernel
theorem kne3:¬ ((Sum.inr "all" : Key)=(Sum.inr "rows" : Key)):=by decide +kernel
theorem kne4:¬ ((Sum.inr "rooms" : Key)=(Sum.inr "now" : Key)):=by decide +kernel
theorem kne5:¬ ((Sum.inr "all" : Key)=(Sum.inr "now" : Key)):=by decide +kernel
theorem kne6:¬ ((Sum.inr "rows" : Key)=(Sum.inr "now" : Key)):=by decide +kernel
section
variable {H H':Hp} {d:Addr} {a:Adr} {b:vY}
theorem uu (a:Adr) (n:Int) : xM (xf a n) (Sum.inr "rooms" : Key)=some (.ref a.R):=d5 rfl
theorem v_all (a:Adr) (n:Int) : xM (xf a n) (Sum.inr "all" : Key)=some (.ref a.A):=(cV kne1).trans (d5 rfl)
theorem vy (a:Adr) (n:Int) : xM (xf a n) (Sum.inr "rows" : Key)=some (.ref a.W):=(cV kne2).trans ((cV kne3).trans (d5 rfl))
theorem uZ (a:Adr) (n:Int) : xM (xf a n) (Sum.inr "now" : Key)=some (.int n):=(cV kne4).trans ((cV kne5).trans ((cV kne6).trans (d5 rfl)))
theorem Pic.gR (P:Pic H d a b) : x3 H d (.str "rooms") (some (.ref a.R)):=by have z:=x3.k (k:=Sum.inr "rooms") P.dict;rw [uu] at z;exact z
theorem Pic.gA (P:Pic H d a b) : x3 H d (.str "all") (some (.ref a.A)):=by have z:=x3.k (k:=Sum.inr "all") P.dict;rw [v_all] at z;exact z
theorem Pic.gW (P:Pic H d a b) : x3 H d (.str "rows") (some (.ref a.W)):=by have z:=x3.k (k:=Sum.inr "rows") P.dict;rw [vy] at z;exact z
theorem Pic.gN (P:Pic H d a b) : x3 H d (.str "now") (some (.int b.now)):=by have z:=x3.k (k:=Sum.inr "now") P.dict;rw [uZ] at z;exact z
theorem oy (a:Adr) (n m:Int) : putK (xf a n) (Sum.inr "now" : Key) (.int m)=xf a m:=by
 unfold putK
 rw [J3 (by rw [jn,uZ];rfl)]
 unfold xf
 rw [List.map_cons,List.map_cons,List.map_cons,List.map_cons,List.map_nil]
 simp only [J0 kne4,J0 kne5,J0 kne6,if_true]
theorem Pic.same (P:Pic H d a b) (g:wm H H') : Pic H' d a b :=
 ⟨g _ _ P.dict,g _ _ P.rooms,g _ _ P.all,g _ _ P.rows,P.recs.mono fun x _ y h=>g _ _ h,P.rws.mono fun x _ y h=>g _ _ h,P.nd,P.one⟩
theorem Pic.dne (P:Pic H d a b) {p:Addr} {xs:List V} (h:H p=some (.lst xs)) : d≠p:=bS P.dict h (by intro q;cases q)
theorem Pic.eM (P:Pic H d a b) {n:Nat} (hn:n<b.all.length) : ∃ p,a.recs[n]? = some p∧H p=some (.lst (wL (b.at n))):=by
 obtain ⟨p,e,h⟩:=P.recs.get hn
 have z:b.at n=b.all[n]:=by unfold vY.at;rw [Jj,Ja hn,Yi]
 rw [z]
 exact ⟨p,e,h⟩
theorem Pic.gj (P:Pic H d a b) {s:Nat} (hs:s<b.rows.length) : ∃ p,a.rws[s]? = some p∧H p=some (.lst ((b.rows.getD s []).map nv)):=by
 obtain ⟨p,e,h⟩:=P.rws.get hs
 have z:b.rows.getD s []=b.rows[s]:=by rw [Jj,Ja hs,Yi]
 rw [z]
 exact ⟨p,e,h⟩
theorem q0 {l:List Addr} (h:l.Nodup) {i j:Nat} {x:Addr} (hi:l[i]? = some x) (hj:l[j]? = some x) : i=j:=by
 obtain ⟨a1,e1⟩:=Jg.mp hi
 obtain ⟨a2,e2⟩:=Jg.mp hj
 exact (List.getElem_inj h).mp (e1.trans e2.symm)
structure Apart (a:Adr) : Prop where
 ra:a.R≠a.A
 rw:a.R≠a.W
 rc:∀ p∈a.recs,a.R≠p
 rr:∀ p∈a.rws,a.R≠p
 aw:a.A≠a.W
 ac:∀ p∈a.recs,a.A≠p
 ar:∀ p∈a.rws,a.A≠p
 wc:∀ p∈a.recs,a.W≠p
 wr:∀ p∈a.rws,a.W≠p
 cc:a.recs.Nodup
 rro:a.rws.Nodup
 cr:∀ p∈a.recs,∀ q∈a.rws,p≠q
theorem fF {a:Adr} (h:(a.R::a.own).Nodup) : Apart a:=by
 unfold Adr.own at h
 obtain ⟨h1,h⟩:=List.nodup_cons.mp h
 obtain ⟨h2,h⟩:=List.nodup_cons.mp h
 obtain ⟨h3,h⟩:=List.nodup_cons.mp h
 obtain ⟨h4,h5,h6⟩:=List.nodup_append.mp h
 simp only [List.mem_cons,Y1,not_or] at h1 h2 h3
 exact ⟨h1.1,h1.2.1,fun p hp e=>h1.2.2.1 (e ▸ hp),fun p hp e=>h1.2.2.2 (e ▸ hp),h2.1,fun p hp e=>h2.2.1 (e ▸ hp),fun p hp e=>h2.2.2 (e ▸ hp),fun p hp e=>h3.1 (e ▸ hp),fun p hp e=>h3.2 (e ▸ hp),h4,h5,fun p hp q hq=>h6 p hp q hq⟩
theorem Pic.zP (P:Pic H d a b) {n:Nat} {p:Addr} (r:Rec) (hp:a.recs[n]? = some p) : Pic (upd H p (.lst (wL r))) d a { b with all:=b.all.set n r }:=by
 have ap:=fF P.nd
 have mp:=List.mem_of_getElem? hp
 have hn:n<b.all.length:=by rw [← P.recs.len];exact (Jg.mp hp).1
 obtain ⟨p',e',hr⟩:=P.eM hn
 rw [hp] at e'
 cases e'
 refine ⟨by rw [ao (P.dne hr)];exact P.dict,by rw [ao (ap.rc p mp)];exact P.rooms,by rw [ao (ap.ac p mp)];exact P.all,by rw [ao (ap.wc p mp)];exact P.rows,⟨by rw [Jt];exact P.recs.len,fun i x y hx hy=>?_⟩,P.rws.mono fun x hx y h=>by rw [ao fun e=>ap.cr p mp x hx e.symm];exact h,P.nd,P.one⟩
 by_cases e:n=i
 ·subst e
  rw [hp] at hx
  cases hx
  rw [List.getElem?_set_self hn] at hy
  cases hy
  exact af
 ·rw [List.getElem?_set_ne e] at hy
  rw [ao fun z=>e (q0 ap.cc hp (by rw [← z];exact hx))]
  exact P.recs.at_ i x y hx hy
theorem Pic.setRow (P:Pic H d a b) {s:Nat} {p:Addr} (ns:List Nat) (hp:a.rws[s]? = some p) : Pic (upd H p (.lst (ns.map nv))) d a { b with rows:=b.rows.set s ns }:=by
 have ap:=fF P.nd
 have mp:=List.mem_of_getElem? hp
 have hn:s<b.rows.length:=by rw [← P.rws.len];exact (Jg.mp hp).1
 obtain ⟨p',e',hr⟩:=P.gj hn
 rw [hp] at e'
 cases e'
 refine ⟨by rw [ao (P.dne hr)];exact P.dict,by rw [ao (ap.rr p mp)];exact P.rooms,by rw [ao (ap.ar p mp)];exact P.all,by rw [ao (ap.wr p mp)];exact P.rows,P.recs.mono fun x hx y h=>by rw [ao (ap.cr x hx p mp)];exact h,⟨by rw [Jt];exact P.rws.len,fun i x y hx hy=>?_⟩,P.nd,by rw [Jt];exact P.one⟩
 by_cases e:s=i
 ·subst e
  rw [hp] at hx
  cases hx
  rw [List.getElem?_set_self hn] at hy
  cases hy
  exact af
 ·rw [List.getElem?_set_ne e] at hy
  rw [ao fun z=>e (q0 ap.rro hp (by rw [← z];exact hx))]
  exact P.rws.at_ i x y hx hy
theorem Pic.setNow (P:Pic H d a b) (t:Int) : Pic (upd H d (.dK (xf a t))) d a { b with now:=t } :=
 ⟨af,by rw [ao (P.dne P.rooms).symm];exact P.rooms,by rw [ao (P.dne P.all).symm];exact P.all,by rw [ao (P.dne P.rows).symm];exact P.rows,
  P.recs.mono fun x _ y h=>by rw [ao (P.dne h).symm];exact h,P.rws.mono fun x _ y h=>by rw [ao (P.dne h).symm];exact h,P.nd,P.one⟩
theorem Pic.addRec (P:Pic H d a b) {p:Addr} {r:Rec} (hn:p∉a.R::a.own) (hp:H p=some (.lst (wL r))) :
  Pic (upd H a.A (.lst ((a.recs++[p]).map V.ref))) d { a with recs:=a.recs++[p] } { b with all:=b.all++[r] }:=by
 have ap:=fF P.nd
 unfold Adr.own at hn
 simp only [List.mem_cons,Y1,not_or] at hn
 refine ⟨by rw [ao (P.dne P.all)];exact P.dict,by rw [ao ap.ra];exact P.rooms,af,by rw [ao ap.aw.symm];exact P.rows,
  Each.snoc (P.recs.mono fun x hx y h=>by rw [ao (ap.ac x hx).symm];exact h) (by rw [ao hn.2.1];exact hp),P.rws.mono fun x hx y h=>by rw [ao (ap.ar x hx).symm];exact h,?_,P.one⟩
 have nd:=P.nd
 unfold Adr.own at nd ⊢
 have e:a.R::a.A::a.W::(a.recs++[p]++a.rws)=[a.R,a.A,a.W]++(a.recs++[p]++a.rws):=rfl
 show (a.R::a.A::a.W::(a.recs++[p]++a.rws)).Nodup
 have pm:List.Perm (a.R::a.A::a.W::(a.recs++[p]++a.rws)) (p::a.R::a.A::a.W::(a.recs++a.rws)):=by
  have q1:List.Perm (a.recs++[p]++a.rws) (p::(a.recs++a.rws)):=by
   rw [Y6]
   exact List.perm_middle
  refine ((q1.cons a.W).cons a.A).cons a.R |>.trans ?_
  exact (List.Perm.cons a.R ((List.Perm.cons a.A (List.Perm.swap p a.W _)).trans (List.Perm.swap p a.A _))).trans (List.Perm.swap p a.R _)
 refine pm.nodup_iff.mpr (List.nodup_cons.mpr ⟨?_,nd⟩)
 simp only [List.mem_cons,Y1,not_or]
 exact ⟨hn.1,hn.2.1,hn.2.2.1,hn.2.2.2.1,hn.2.2.2.2⟩
theorem kq {α:Type} {P:Addr→α→Prop} {xs:List Addr} {ys:List α} (h:Each P xs ys) {x:Addr} (hx:x∈xs) : ∃ y,P x y:=by
 obtain ⟨i,hi,e⟩:=List.getElem_of_mem hx
 have hy:i<ys.length:=by rw [← h.len];exact hi
 exact ⟨ys[i],h.at_ i x ys[i] (by rw [← e];exact Ja hi) (Ja hy)⟩
theorem Pic.there (P:Pic H d a b) {x:Addr} (h:x∈foot d a) : ∃ o,H x=some o:=by
 unfold foot Adr.own at h
 simp only [List.mem_cons,Y1] at h
 rcases h with e | e | e | e | e
 ·subst e;exact ⟨_,P.dict⟩
 ·subst e;exact ⟨_,P.all⟩
 ·subst e;exact ⟨_,P.rows⟩
 ·obtain ⟨y,h⟩:=kq P.recs e
  exact ⟨_,h⟩
 ·obtain ⟨y,h⟩:=kq P.rws e
  exact ⟨_,h⟩
theorem Pic.ne (P:Pic H d a b) {x l:Addr} (h:x∈foot d a) (n:H l=none) : x≠l:=by
 obtain ⟨o,e⟩:=P.there h
 exact aE e n
theorem jx {a:Adr} {p d:Addr} (h:p∈a.recs) : p∈foot d a:=by
 unfold foot Adr.own
 simp [h]
theorem lB {a:Adr} {p d:Addr} (h:p∈a.rws) : p∈foot d a:=by
 unfold foot Adr.own
 simp [h]
theorem Pic.yV (P:Pic H d a b) {l:Addr} {o:HO} (nl:l∉a.R::foot d a) : Pic (upd H l o) d a b:=by
 have ne:∀ x,x∈a.R::foot d a→x≠l:=fun x hx e=>nl (e ▸ hx)
 have hd:d∈a.R::foot d a:=by unfold foot;simp
 have hA:a.A∈a.R::foot d a:=by unfold foot Adr.own;simp
 have hW:a.W∈a.R::foot d a:=by unfold foot Adr.own;simp
 exact ⟨by rw [ao (ne _ hd)];exact P.dict,by rw [ao (ne _ Jb)];exact P.rooms,by rw [ao (ne _ hA)];exact P.all,by rw [ao (ne _ hW)];exact P.rows,
  P.recs.mono fun x hx y h=>by rw [ao (ne x (Jd _ (jx hx)))];exact h,P.rws.mono fun x hx y h=>by rw [ao (ne x (Jd _ (lB hx)))];exact h,P.nd,P.one⟩
end
end Kp
namespace Kp
open PySem L2
structure vY.Ok (b:vY) : Prop where
 one:b.rooms.length=b.rows.length
 shw:∀ n,n<b.all.length→(b.at n).shw<b.rooms.length
 row:∀ s,∀ n∈b.rows.getD s [],n<b.all.length∧(b.at n).st=.waiting∧(b.at n).shw=s
 nd:∀ s,(b.rows.getD s []).Nodup
 wait:∀ n,n<b.all.length→(b.at n).st=.waiting→n∈b.rows.getD (b.at n).shw []
 til:∀ n,n<b.all.length→((b.at n).st=.held↔(b.at n).til≠none)
 len:∀ s,(b.rows.getD s []).length≤b.all.length
theorem bI {α:Type} {l:List α} {i j:Nat} {x d : α} (h:i<l.length) : (l.set i x).getD j d=if j=i then x else l.getD j d:=by
 rw [Jj,Jj]
 by_cases e:j=i
 ·subst e
  rw [J3 rfl,List.getElem?_set_self h,Yi]
 ·rw [J0 e,List.getElem?_set_ne fun z=>e z.symm]
theorem getD_snoc {α:Type} {l:List α} {j:Nat} {x d : α} (h:j<l.length+1) : (l++[x]).getD j d=if j=l.length then x else l.getD j d:=by
 rw [Jj,Jj]
 by_cases e:j=l.length
 ·subst e
  rw [J3 rfl,List.getElem?_concat_length,Yi]
 ·rw [J0 e,List.getElem?_append_left (by omega)]
theorem vY.Ok.now {b:vY} (O:b.Ok) (t:Int) : vY.Ok { b with now:=t }:=⟨O.one,O.shw,O.row,O.nd,O.wait,O.til,O.len⟩
theorem vY.Ok.put {b:vY} (O:b.Ok) {n:Nat} {r:Rec} (hn:n<b.all.length) (h1:r.shw<b.rooms.length) (hw:r.st=.waiting↔(b.at n).st=.waiting)
  (hs:r.st=.waiting→r.shw=(b.at n).shw) (ht:r.st=.held↔r.til≠none) : vY.Ok { b with all:=b.all.set n r }:=by
 have e:∀ m,vY.at { b with all:=b.all.set n r } m=if m=n then r else b.at m:=fun m=>bI hn
 have el:({ b with all:=b.all.set n r } : vY).all.length=b.all.length:=Jt ..
 refine ⟨O.one,fun m hm=>?_,fun s m hm=>?_,O.nd,fun m hm h=>?_,fun m hm=>?_,fun s=>by rw [el];exact O.len s⟩
 ·rw [e]
  rw [el] at hm
  by_cases c:m=n
  ·rw [J3 c];exact h1
  ·rw [J0 c];exact O.shw m hm
 ·obtain ⟨a1,a2,a3⟩:=O.row s m hm
  rw [el,e]
  by_cases c:m=n
  ·subst c
   rw [J3 rfl]
   exact ⟨a1,hw.mpr a2,(hs (hw.mpr a2)).trans a3⟩
  ·rw [J0 c]
   exact ⟨a1,a2,a3⟩
 ·rw [el] at hm
  rw [e] at h ⊢
  by_cases c:m=n
  ·subst c
   rw [J3 rfl] at h ⊢
   rw [hs h]
   exact O.wait m hm (hw.mp h)
  ·rw [J0 c] at h ⊢
   exact O.wait m hm h
 ·rw [el] at hm
  rw [e]
  by_cases c:m=n
  ·rw [J3 c];exact ht
  ·rw [J0 c];exact O.til m hm
theorem vY.Ok.unwait {b:vY} (O:b.Ok) {n:Nat} {r:Rec} (hn:n<b.all.length) (hw:(b.at n).st=.waiting) (h1:r.shw=(b.at n).shw) (h2:r.st≠.waiting) (ht:r.st=.held↔r.til≠none) :
  vY.Ok { b with all:=b.all.set n r,rows:=b.rows.set (b.at n).shw ((b.rows.getD (b.at n).shw []).erase n) }:=by
 have hsr:(b.at n).shw<b.rows.length:=by rw [← O.one];exact O.shw n hn
 have e:∀ m,(b.all.set n r).getD m xx=if m=n then r else b.at m:=fun m=>bI hn
 have ew:∀ s,(b.rows.set (b.at n).shw ((b.rows.getD (b.at n).shw []).erase n)).getD s []=if s=(b.at n).shw then (b.rows.getD (b.at n).shw []).erase n else b.rows.getD s []:=fun s=>bI hsr
 have el:(b.all.set n r).length=b.all.length:=Jt ..
 refine ⟨by show _=(b.rows.set _ _).length;rw [Jt];exact O.one,fun m hm=>?_,fun s m hm=>?_,fun s=>?_,fun m hm h=>?_,fun m hm=>?_,fun s=>?_⟩
 ·show ((b.all.set n r).getD m xx).shw<_
  change m<(b.all.set n r).length at hm
  rw [e]
  rw [el] at hm
  by_cases c:m=n
  ·rw [J3 c,h1];exact O.shw n hn
  ·rw [J0 c];exact O.shw m hm
 ·show m<(b.all.set n r).length∧((b.all.set n r).getD m xx).st=_∧((b.all.set n r).getD m xx).shw=_
  change m∈(b.rows.set (b.at n).shw ((b.rows.getD (b.at n).shw []).erase n)).getD s [] at hm
  rw [ew] at hm
  rw [el,e]
  have hm2:m∈b.rows.getD s []∧m≠n:=by
   by_cases c:s=(b.at n).shw
   ·rw [J3 c] at hm
    have z:=((O.nd (b.at n).shw).mem_erase_iff).mp hm
    rw [c]
    exact ⟨z.2,z.1⟩
   ·rw [J0 c] at hm
    refine ⟨hm,fun z=>c ?_⟩
    subst z
    exact (O.row s m hm).2.2.symm
  rw [J0 hm2.2]
  exact O.row s m hm2.1
 ·show ((b.rows.set (b.at n).shw ((b.rows.getD (b.at n).shw []).erase n)).getD s []).Nodup
  rw [ew]
  by_cases c:s=(b.at n).shw
  ·rw [J3 c];exact (O.nd _).erase n
  ·rw [J0 c];exact O.nd s
 ·change m<(b.all.set n r).length at hm
  change ((b.all.set n r).getD m xx).st=_ at h
  show m∈(b.rows.set (b.at n).shw ((b.rows.getD (b.at n).shw []).erase n)).getD ((b.all.set n r).getD m xx).shw []
  rw [el] at hm
  rw [e] at h
  rw [ew,e]
  by_cases c:m=n
  ·rw [J3 c] at h
   exact absurd h h2
  ·rw [J0 c] at h ⊢
   have z:=O.wait m hm h
   by_cases c2:(b.at m).shw=(b.at n).shw
   ·rw [J3 c2]
    rw [c2] at z
    exact ((O.nd _).mem_erase_iff).mpr ⟨c,z⟩
   ·rw [J0 c2]
    exact z
 ·change m<(b.all.set n r).length at hm
  show ((b.all.set n r).getD m xx).st=_↔((b.all.set n r).getD m xx).til≠none
  rw [el] at hm
  rw [e]
  by_cases c:m=n
  ·rw [J3 c];exact ht
  ·rw [J0 c];exact O.til m hm
 ·show ((b.rows.set (b.at n).shw ((b.rows.getD (b.at n).shw []).erase n)).getD s []).length≤(b.all.set n r).length
  rw [ew,el]
  by_cases c:s=(b.at n).shw
  ·rw [J3 c];exact Ju List.length_erase_le (O.len _)
  ·rw [J0 c];exact O.len s
theorem vY.Ok.enter {b:vY} (O:b.Ok) {r:Rec} (hs:r.shw<b.rooms.length) (hw:r.st=.waiting) (ht:r.til=none) :
  vY.Ok { b with all:=b.all++[r],rows:=b.rows.set r.shw (b.rows.getD r.shw []++[b.all.length]) }:=by
 have hsr:r.shw<b.rows.length:=by rw [← O.one];exact hs
 have e:∀ m,m<b.all.length+1→(b.all++[r]).getD m xx=if m=b.all.length then r else b.at m:=fun m h=>getD_snoc h
 have ew:∀ s,(b.rows.set r.shw (b.rows.getD r.shw []++[b.all.length])).getD s []=if s=r.shw then b.rows.getD r.shw []++[b.all.length] else b.rows.getD s []:=fun s=>bI hsr
 have el:(b.all++[r]).length=b.all.length+1:=by simp
 refine ⟨by show _=(b.rows.set _ _).length;rw [Jt];exact O.one,fun m hm=>?_,fun s m hm=>?_,fun s=>?_,fun m hm h=>?_,fun m hm=>?_,fun s=>?_⟩
 ·change m<(b.all++[r]).length at hm
  show ((b.all++[r]).getD m xx).shw<_
  rw [el] at hm
  rw [e m hm]
  by_cases c:m=b.all.length
  ·rw [J3 c];exact hs
  ·rw [J0 c];exact O.shw m (by omega)
 ·show m<(b.all++[r]).length∧((b.all++[r]).getD m xx).st=_∧((b.all++[r]).getD m xx).shw=_
  change m∈(b.rows.set r.shw (b.rows.getD r.shw []++[b.all.length])).getD s [] at hm
  rw [ew] at hm
  rw [el]
  have hm2:(m∈b.rows.getD s [])∨(m=b.all.length∧s=r.shw):=by
   by_cases c:s=r.shw
   ·rw [J3 c] at hm
    rcases Y1.mp hm with z | z
    ·left;rw [c];exact z
    ·right;exact ⟨Y5.mp z,c⟩
   ·rw [J0 c] at hm
    exact .inl hm
  rcases hm2 with z | ⟨z,c⟩
  ·obtain ⟨a1,a2,a3⟩:=O.row s m z
   rw [e m (by omega),J0 (by omega)]
   exact ⟨by omega,a2,a3⟩
  ·rw [e m (by omega),J3 z]
   exact ⟨by omega,hw,c.symm⟩
 ·show ((b.rows.set r.shw (b.rows.getD r.shw []++[b.all.length])).getD s []).Nodup
  rw [ew]
  by_cases c:s=r.shw
  ·rw [J3 c]
   refine List.nodup_append.mpr ⟨O.nd _,by simp,fun x hx y hy=>?_⟩
   have z:=(O.row _ x hx).1
   rw [Y5.mp hy]
   omega
  ·rw [J0 c];exact O.nd s
 ·change m<(b.all++[r]).length at hm
  change ((b.all++[r]).getD m xx).st=_ at h
  show m∈(b.rows.set r.shw (b.rows.getD r.shw []++[b.all.length])).getD ((b.all++[r]).getD m xx).shw []
  rw [el] at hm
  rw [e m hm] at h
  rw [ew,e m hm]
  by_cases c:m=b.all.length
  ·rw [J3 c,J3 rfl]
   simp [c]
  ·rw [J0 c] at h ⊢
   have z:=O.wait m (by omega) h
   by_cases c2:(b.at m).shw=r.shw
   ·rw [J3 c2]
    rw [c2] at z
    exact Ye _ z
   ·rw [J0 c2]
    exact z
 ·change m<(b.all++[r]).length at hm
  show ((b.all++[r]).getD m xx).st=_↔((b.all++[r]).getD m xx).til≠none
  rw [el] at hm
  rw [e m hm]
  by_cases c:m=b.all.length
  ·rw [J3 c,hw,ht];exact ⟨(by intro h;cases h),fun h=>absurd rfl h⟩
  ·rw [J0 c];exact O.til m (by omega)
 ·show ((b.rows.set r.shw (b.rows.getD r.shw []++[b.all.length])).getD s []).length≤(b.all++[r]).length
  rw [ew,el]
  by_cases c:s=r.shw
  ·rw [J3 c,Jc,Jo]
   have:=O.len r.shw
   omega
  ·rw [J0 c]
   have:=O.len s
   omega
theorem gU (s:Nat) : ∀ (row x:List Nat) (b:vY),vY.w6 s { b with rows:=b.rows.set s x } row=vY.w6 s b row
 | [],x,b=>by
  unfold vY.w6
  rw [List.set_set]
 | n::r,x,b=>by
  unfold vY.w6
  have e:vY.hold { b with rows:=b.rows.set s x } n={ b.hold n with rows:=(b.hold n).rows.set s x }:=rfl
  have ih:=gU s r x (b.hold n)
  rw [e,ih]
  show (if (b.at n).many≤b.spare s then _ else _)=_
  rw [List.set_set]
theorem jy {b:vY} {s n:Nat} {r:List Nat} (hs:s<b.rows.length) (h:b.rows.getD s []=n::r) (c:(b.at n).many≤b.spare s) :
  b.serve s=((vY.serve { b.hold n with rows:=b.rows.set s r } s).1,n::(vY.serve { b.hold n with rows:=b.rows.set s r } s).2):=by
 have e:({ b.hold n with rows:=b.rows.set s r } : vY).rows.getD s []=r:=by
  show (b.rows.set s r).getD s []=r
  rw [Jj,List.getElem?_set_self hs,Yi]
 have z:({ b.hold n with rows:=b.rows.set s r } : vY)={ b.hold n with rows:=(b.hold n).rows.set s r }:=rfl
 unfold vY.serve
 rw [h,e,z,gU]
 conv=>lhs;unfold vY.w6
 rw [J3 c]
theorem rg {α:Type} {l:List α} {i:Nat} {d : α} (h:i<l.length) : l.set i (l.getD i d)=l:=by
 rw [Jj,Ja h,Yi,List.set_getElem_self]
theorem eZ {b:vY} {s:Nat} (hs:s<b.rows.length) (h:b.rows.getD s []=[]∨∃ n r,b.rows.getD s []=n::r∧¬ (b.at n).many≤b.spare s) : b.serve s=(b,[]):=by
 have e:=rg (d:=[]) hs
 unfold vY.serve
 rcases h with h | ⟨n,r,h,c⟩
 ·rw [h] at e ⊢
  unfold vY.w6
  rw [e]
 ·rw [h] at e ⊢
  unfold vY.w6
  rw [J0 c,e]
def vY.xA (b:vY) (s n:Nat) (r:List Nat) : vY:={ b.hold n with rows:=b.rows.set s r }
theorem pB {b:vY} (O:b.Ok) {s n:Nat} {r:List Nat} (h:b.rows.getD s []=n::r) : (b.xA s n r).Ok:=by
 obtain ⟨a1,a2,a3⟩:=O.row s n (by rw [h];exact Jb)
 have z:=O.unwait (r:=(b.at n).hold b.now) a1 a2 rfl (by intro q;cases q) ⟨fun _ q=>(by cases q),fun _=>rfl⟩
 rw [a3,h,List.erase_cons_head] at z
 exact z
theorem dU {s:Nat} (M:vY→vY × List Nat→Prop)
  (stop:∀ b:vY,b.Ok→s<b.rooms.length→(b.rows.getD s []=[]∨∃ n r,b.rows.getD s []=n::r∧¬ (b.at n).many≤b.spare s)→M b (b,[]))
  (step:∀ (b:vY) (n:Nat) (r:List Nat) (o:vY × List Nat),b.Ok→s<b.rooms.length→b.rows.getD s []=n::r→(b.at n).many≤b.spare s→(b.xA s n r).Ok→M (b.xA s n r) o→M b (o.1,n::o.2)) :
  ∀ (k:Nat) (b:vY),(b.rows.getD s []).length=k→b.Ok→s<b.rooms.length→M b (b.serve s)
 | 0,b,hk,O,hs=>by
  have h:=List.length_eq_zero_iff.mp hk
  rw [eZ (by rw [← O.one];exact hs) (.inl h)]
  exact stop b O hs (.inl h)
 | k+1,b,hk,O,hs=>by
  have hs':s<b.rows.length:=by rw [← O.one];exact hs
  cases h:b.rows.getD s [] with
  | nil=>rw [h] at hk;cases hk
  | cons n r =>
   by_cases c:(b.at n).many≤b.spare s
   ·have O1:=pB O h
    rw [jy hs' h c]
    refine step b n r ((b.xA s n r).serve s) O hs h c O1 ?_
    refine dU M stop step k (b.xA s n r) ?_ O1 hs
    show ((b.rows.set s r).getD s []).length=k
    rw [bI hs',J3 rfl]
    rw [h] at hk
    exact Nat.succ.inj hk
   ·rw [eZ hs' (.inr ⟨n,r,h,c⟩)]
    exact stop b O hs (.inr ⟨n,r,h,c⟩)
theorem fG (b:vY) (n:Nat) : (b.hold n).all.length=b.all.length:=by show (b.all.set _ _).length=_;rw [Jt]
structure xB (b:vY) (o:vY × List Nat) : Prop where
 ok:o.1.Ok
 rooms:o.1.rooms=b.rooms
 len:o.1.all.length=b.all.length
 now:o.1.now=b.now
theorem cm {b:vY} {s:Nat} (O:b.Ok) (hs:s<b.rooms.length) : xB b (b.serve s):=by
 refine dU (s:=s) xB (fun b O _ _=>⟨O,rfl,rfl,rfl⟩) (fun b n r o O hs h c O1 z=>?_) _ b rfl O hs
 exact ⟨z.ok,z.rooms.trans rfl,z.len.trans (fG b n),z.now.trans rfl⟩
theorem cu {b:vY} {s:Nat} (O:b.Ok) (hs:s<b.rooms.length) : (b.serve s).2.length≤b.all.length:=by
 refine Ju ?_ (O.len s)
 refine dU (s:=s) (fun b o=>o.2.length≤(b.rows.getD s []).length) (fun b O _ _=>Nat.zero_le _) (fun b n r o O hs h c O1 z=>?_) _ b rfl O hs
 have e:(b.xA s n r).rows.getD s []=r:=by
  show (b.rows.set s r).getD s []=r
  rw [bI (by rw [← O.one];exact hs),J3 rfl]
 rw [e] at z
 rw [h]
 exact Nat.succ_le_succ z
def Rec.go (r:Rec) : Rec:={ r with st:=.gone,til:=none }
def vY.left (b:vY) (n:Nat) : vY:={ b.unrow n with all:=b.all.set n (b.at n).go }
theorem gX {b:vY} {n:Nat} (h:(b.at n).st=.waiting) : b.unrow n={ b with rows:=b.rows.set (b.at n).shw ((b.rows.getD (b.at n).shw []).erase n) }:=by unfold vY.unrow;rw [J3 h]
theorem gY {b:vY} {n:Nat} (h:(b.at n).st≠.waiting) : b.unrow n=b:=by unfold vY.unrow;rw [J0 h]
theorem cW {b:vY} (O:b.Ok) {n:Nat} (hn:n<b.all.length) : (b.left n).Ok:=by
 unfold vY.left
 by_cases c:(b.at n).st=.waiting
 ·rw [gX c]
  exact O.unwait (r:=(b.at n).go) hn c rfl (by intro q;cases q) ⟨(by intro q;cases q),fun q=>absurd rfl q⟩
 ·rw [gY c]
  exact O.put (r:=(b.at n).go) hn (O.shw n hn) ⟨(by intro q;cases q),fun q=>absurd q c⟩ (by intro q;cases q) ⟨(by intro q;cases q),fun q=>absurd rfl q⟩
theorem cX (b:vY) (n:Nat) : b.leave n=(b.left n).serve (b.at n).shw:=rfl
theorem iQ (b:vY) (n:Nat) : (b.unrow n).rooms=b.rooms:=by unfold vY.unrow;by_cases c:(b.at n).st=.waiting <;> simp [c]
theorem iF (b:vY) (n:Nat) : (b.unrow n).now=b.now:=by unfold vY.unrow;by_cases c:(b.at n).st=.waiting <;> simp [c]
theorem iG (b:vY) (n:Nat) : (b.unrow n).all=b.all:=by unfold vY.unrow;by_cases c:(b.at n).st=.waiting <;> simp [c]
theorem rj (b:vY) (n m:Nat) : (b.unrow n).at m=b.at m:=by unfold vY.at;rw [iG]
theorem d8 (b:vY) (n:Nat) : (b.left n).all.length=b.all.length:=by show (b.all.set _ _).length=_;rw [Jt]
theorem cv {b:vY} (O:b.Ok) {n:Nat} (hn:n<b.all.length) : (b.at n).shw<(b.left n).rooms.length:=by
 show _<(b.unrow n).rooms.length
 rw [iQ]
 exact O.shw n hn
theorem bQ {b:vY} (O:b.Ok) {n:Nat} (hn:n<b.all.length) : xB b (b.leave n):=by
 have z:=cm (cW O hn) (cv O hn)
 rw [cX]
 refine ⟨z.ok,z.rooms.trans (iQ b n),z.len.trans ?_,z.now.trans (iF b n)⟩
 show (b.all.set _ _).length=_
 rw [Jt]
end Kp
namespace Kp
open PySem L2
mutual
def Rep (F:List Addr) (H:Hp) : Dt→V→Prop
 | .int i,v=>v=.int i
 | .str x,v=>v=.str x
 | .non,v=>v=.non
 | .seq k ds,v=>∃ (a:Addr) (xs:List V),v=.ref a∧a∉F∧H a=some (if k=true then .lst xs else .tup xs)∧wt F H ds xs
def wt (F:List Addr) (H:Hp) : List Dt→List V→Prop
 | [],xs=>xs=[]
 | d::ds,xs=>∃ (x:V) (ys:List V),xs=x::ys∧Rep F H d x∧wt F H ds ys
end
mutual
theorem Rep.step {F F':List Addr} {H H':Hp} (k:wH F H H') (e:Ext H F F') : ∀ {D:Dt} {v:V},Rep F H D v→Rep F' H' D v
 | .int i,v,h=>by unfold Rep at h ⊢;exact h
 | .str x,v,h=>by unfold Rep at h ⊢;exact h
 | .non,v,h=>by unfold Rep at h ⊢;exact h
 | .seq b ds,v,h=>by
  unfold Rep at h ⊢
  obtain ⟨a,xs,rfl,n,ha,q⟩:=h
  refine ⟨a,xs,rfl,fun m=>?_,k _ _ ha n,wt.step k e q⟩
  rcases e a m with z | z
  ·exact n z
  ·rw [ha] at z;cases z
theorem wt.step {F F':List Addr} {H H':Hp} (k:wH F H H') (e:Ext H F F') : ∀ {ds:List Dt} {xs:List V},wt F H ds xs→wt F' H' ds xs
 | [],xs,h=>by unfold wt at h ⊢;exact h
 | d::ds,xs,h=>by
  unfold wt at h ⊢
  obtain ⟨x,ys,rfl,q,r⟩:=h
  exact ⟨x,ys,rfl,Rep.step k e q,wt.step k e r⟩
end
theorem Rep.same {F:List Addr} {H H':Hp} {D:Dt} {v:V} (h:Rep F H D v) (g:wm H H') : Rep F H' D v:=h.step (xy g) Ext.refl
theorem wt.same {F:List Addr} {H H':Hp} {ds:List Dt} {xs:List V} (h:wt F H ds xs) (g:wm H H') : wt F H' ds xs:=h.step (xy g) Ext.refl
theorem wt.len {F:List Addr} {H:Hp} : ∀ {ds:List Dt} {xs:List V},wt F H ds xs→xs.length=ds.length
 | [],xs,h=>by unfold wt at h;subst h;rfl
 | d::ds,xs,h=>by
  unfold wt at h
  obtain ⟨x,ys,rfl,_,r⟩:=h
  simp [wt.len r]
theorem wt.snoc {F:List Addr} {H:Hp} {d:Dt} {x:V} (q:Rep F H d x) : ∀ {ds:List Dt} {xs:List V},wt F H ds xs→wt F H (ds++[d]) (xs++[x])
 | [],xs,h=>by unfold wt at h;subst h;unfold wt;exact ⟨x,[],rfl,q,by unfold wt;rfl⟩
 | e::ds,xs,h=>by
  unfold wt at h
  obtain ⟨y,ys,rfl,q1,r⟩:=h
  rw [List.cons_append]
  unfold wt
  exact ⟨y,ys++[x],rfl,q1,wt.snoc q r⟩
theorem wt.get {F:List Addr} {H:Hp} : ∀ {ds:List Dt} {xs:List V} {i:Nat} {d:Dt},wt F H ds xs→ds[i]? = some d→∃ x,xs[i]? = some x∧Rep F H d x
 | [],xs,i,d,h,e=>by simp at e
 | f::ds,xs,0,d,h,e=>by
  unfold wt at h
  obtain ⟨y,ys,rfl,q1,r⟩:=h
  cases e
  exact ⟨y,rfl,q1⟩
 | f::ds,xs,i+1,d,h,e=>by
  unfold wt at h
  obtain ⟨y,ys,rfl,q1,r⟩:=h
  exact wt.get (i:=i) r (by simpa using e)
theorem bD {F:List Addr} {H:Hp} : wt F H [] []:=by unfold wt;rfl
theorem aI {F:List Addr} {H:Hp} {d:Dt} {x:V} {ds:List Dt} {xs:List V} (q:Rep F H d x) (r:wt F H ds xs) : wt F H (d::ds) (x::xs):=by unfold wt;exact ⟨x,xs,rfl,q,r⟩
theorem bE {F:List Addr} {H:Hp} {i:Int} : Rep F H (.int i) (.int i):=by unfold Rep;rfl
theorem aN {F:List Addr} {H:Hp} {x:Str} : Rep F H (.str x) (.str x):=by unfold Rep;rfl
theorem uv {F:List Addr} {H:Hp} : Rep F H .non .non:=by unfold Rep;rfl
theorem lC {F:List Addr} {H:Hp} (t:Option Int) : Rep F H (x5 t) (xr t):=by cases t <;> unfold x5 xr <;> first | exact uv | exact bE
theorem fb {F:List Addr} {H:Hp} {a:Addr} {ds:List Dt} {xs:List V} (n:a∉F) (h:H a=some (.lst xs)) (r:wt F H ds xs) : Rep F H (.lst ds) (.ref a):=by
 unfold Rep
 exact ⟨a,xs,rfl,n,by rw [J3 rfl];exact h,r⟩
theorem dO {F:List Addr} {H:Hp} {a:Addr} {ds:List Dt} {xs:List V} (n:a∉F) (h:H a=some (.tup xs)) (r:wt F H ds xs) : Rep F H (.tup ds) (.ref a):=by
 unfold Rep
 exact ⟨a,xs,rfl,n,by rw [J0 Jn];exact h,r⟩
theorem kr {F:List Addr} {H:Hp} : ∀ ns:List Nat,wt F H (ns.map fun n=>.int (n:Nat)) (ns.map nv)
 | []=>bD
 | n::ns=>aI bE (kr ns)
theorem dw {F:List Addr} {H:Hp} {a:Addr} {ns:List Nat} (n:a∉F) (h:H a=some (.lst (ns.map nv))) : Rep F H (wY ns) (.ref a):=fb n h (kr ns)
structure After (H:Hp) (d:Addr) (a:Adr) (H':Hp) (a':Adr) (b':vY) : Prop where
 pic:Pic H' d a' b'
 keep:wH (foot d a) H H'
 ext:Ext H (foot d a) (foot d a')
 rm:a'.R=a.R
section
variable {H H1 H2:Hp} {d:Addr} {a a1 a2:Adr} {b b1 b2:vY}
theorem After.refl (P:Pic H d a b) : After H d a H a b:=⟨P,wH.refl,Ext.refl,rfl⟩
theorem After.trans (A:After H d a H1 a1 b1) (B:After H1 d a1 H2 a2 b2) : After H d a H2 a2 b2:=⟨B.pic,A.keep.trans A.ext B.keep,Ext.trans A.keep A.ext B.ext,B.rm.trans A.rm⟩
theorem After.same (A:After H d a H1 a1 b1) (g:wm H1 H2) : After H d a H2 a1 b1:=⟨A.pic.same g,A.keep.same g,A.ext,A.rm⟩
theorem After.recd (A:After H d a H1 a1 b1) {n:Nat} {p:Addr} (r:Rec) (hp:a1.recs[n]? = some p) : After H d a (upd H1 p (.lst (wL r))) a1 { b1 with all:=b1.all.set n r } :=
 ⟨A.pic.zP r hp,A.keep.put (A.ext p (jx (List.mem_of_getElem? hp))) _,A.ext,A.rm⟩
theorem After.row (A:After H d a H1 a1 b1) {s:Nat} {p:Addr} (ns:List Nat) (hp:a1.rws[s]? = some p) : After H d a (upd H1 p (.lst (ns.map nv))) a1 { b1 with rows:=b1.rows.set s ns } :=
 ⟨A.pic.setRow ns hp,A.keep.put (A.ext p (lB (List.mem_of_getElem? hp))) _,A.ext,A.rm⟩
theorem After.now (A:After H d a H1 a1 b1) (t:Int) : After H d a (upd H1 d (.dK (xf a1 t))) a1 { b1 with now:=t } :=
 ⟨A.pic.setNow t,A.keep.put (.inl (by unfold foot;exact Jb)) _,A.ext,A.rm⟩
theorem dW (k:wH (foot d a) H H1) (e:Ext H (foot d a) (foot d a1)) (p:Pic H1 d a1 b1) (sub:∀ x∈foot d a,x∈foot d a1) {l:Addr} (h:H1 l=none) : H l=none:=by
 cases q:H l with
 | none=>rfl
 | some o =>
  by_cases m:l∈foot d a
  ·obtain ⟨o',z⟩:=p.there (sub l m)
   rw [h] at z;cases z
  ·rw [k l o q m] at h;cases h
theorem After.add (A:After H d a H1 a1 b1) (sub:∀ x∈foot d a,x∈foot d a1) {p:Addr} {r:Rec} (hn:H1 p=none) : After H d a (upd (upd H1 p (.lst (wL r))) a1.A (.lst ((a1.recs++[p]).map V.ref))) { a1 with recs:=a1.recs++[p] } { b1 with all:=b1.all++[r] }:=by
 have nf:∀ x∈foot d a1,x≠p:=fun x hx=>A.pic.ne hx hn
 have np:p∉a1.R::a1.own:=fun m=>by
  rcases List.mem_cons.mp m with e | e
  ·rw [e,A.pic.rooms] at hn;cases hn
  ·exact nf p (Jd _ e) rfl
 have B:=A.same (ai hn (.lst (wL r)))
 have hA:a1.A∈foot d a1:=by unfold foot Adr.own;simp
 refine ⟨B.pic.addRec np af,B.keep.put (A.ext _ hA) _,fun x hx=>?_,A.rm⟩
 have:x∈foot d a1∨x=p:=by
  unfold foot Adr.own at hx ⊢
  simp only [List.mem_cons,Y1,List.not_mem_nil,or_false] at hx ⊢
  rcases hx with h | h | h | (h | h) | h
  ·exact .inl (.inl h)
  ·exact .inl (.inr (.inl h))
  ·exact .inl (.inr (.inr (.inl h)))
  ·exact .inl (.inr (.inr (.inr (.inl h))))
  ·exact .inr h
  ·exact .inl (.inr (.inr (.inr (.inr h))))
 rcases this with h | h
 ·exact A.ext x h
 ·subst h
  exact .inr (dW A.keep A.ext A.pic sub hn)
theorem Pic.new (P:Pic H d a b) {l:Addr} (h:H l=none) : l∉foot d a:=fun m=>P.ne m h rfl
end
theorem Ext.cons {H:Hp} {F:List Addr} {q:Addr} (h:H q=none) : Ext H F (q::F):=fun x hx=>(List.mem_cons.mp hx).elim (fun e=>.inr (by rw [e];exact h)) .inl
theorem Ext.drop {H:Hp} {F:List Addr} {q:Addr} : Ext H (q::F) F:=fun x hx=>.inl (Jd _ hx)
theorem wH.more {F:List Addr} {H H':Hp} {q:Addr} (k:wH F H H') : wH (q::F) H H':=fun x o h n=>k x o h fun z=>n (Jd _ z)
theorem bx {H H':Hp} {a:Addr} (g:wm H H') (n:H a=none) (o:HO) : wm H (upd H' a o):=fun b u e=>by rw [ao (aE e n)];exact g b u e
def yC (H:Hp) (v:V) : Prop:=∀ q,v=.ref q→H q=none
theorem bA {H:Hp} {x:Str} : yC H (.str x):=fun q e=>by cases e
theorem rA {H:Hp} {i:Int} : yC H (.int i):=fun q e=>by cases e
theorem cY {H:Hp} {l:Addr} (h:H l=none) : yC H (.ref l):=fun q e=>by cases e;exact h
def zB (H:Hp) (d:Addr) (a:Adr) (o:vY × Dt) (Q:VK) : Prop:=∀ H' a' v,After H d a H' a' o.1→Rep (foot d a') H' o.2 v→yC H v→Q v H'
def wd.vs:wd→List V
 | .keep w s m p=>[.str "keep",.str w,.int s,.int m,.int p]
 | .take n=>[.str "take",.int n]
 | .back n=>[.str "back",.int n]
 | .part n m=>[.str "part",.int n,.int m]
 | .move n s=>[.str "move",.int n,.int s]
 | .pass n w=>[.str "pass",.int n,.str w]
 | .clock t=>[.str "clock",.int t]
 | .free s=>[.str "free",.int s]
 | .row s=>[.str "row",.int s]
 | .state n=>[.str "state",.int n]
end Kp
namespace Kp
open PySem L2
def xn (t:Int) (r:Rec) (k:Nat) : List (Int × Nat):=match r.st,r.til with
 | .held,some u=>if u≤t then [(u,k)] else []
 | _,_=>[]
theorem cQ (t:Int) (k:Nat) (r:Rec) (rs:List Rec) : heldBy t k (r::rs)=xn t r k++heldBy t (k+1) rs:=by
 conv=>lhs;unfold heldBy
 unfold xn
 cases r.st <;> cases r.til <;> try rfl
 rename_i u
 dsimp only
 by_cases c:u≤t
 ·rw [J3 c,J3 c];rfl
 ·rw [J0 c,J0 c];rfl
theorem iR (t:Int) (r:Rec) : ∀ (k:Nat) (rs:List Rec),heldBy t k (rs++[r])=heldBy t k rs++xn t r (k+rs.length)
 | k,[]=>by
  rw [List.nil_append,cQ]
  simp [heldBy]
 | k,x::rs=>by
  rw [List.cons_append,cQ,cQ,iR t r (k+1) rs,Y6,Jy,show k+1+rs.length=k+(rs.length+1) by omega]
theorem pC {t:Int} {r:Rec} {k:Nat} {u:Int} {n:Nat} (h:(u,n)∈xn t r k) : n=k∧r.st=.held∧r.til=some u∧u≤t:=by
 unfold xn at h
 cases e1:r.st <;> cases e2:r.til <;> rw [e1,e2] at h <;> dsimp only at h <;> try (cases h;done)
 rename_i v
 by_cases c:v≤t
 ·rw [J3 c,Y5] at h
  cases h
  exact ⟨rfl,rfl,rfl,c⟩
 ·rw [J0 c] at h
  cases h
theorem gk {t:Int} {u:Int} {n:Nat} : ∀ {k:Nat} {rs:List Rec},(u,n)∈heldBy t k rs→k≤n∧∃ r,rs[n-k]? = some r∧r.st=.held∧r.til=some u∧u≤t
 | k,[],h=>by simp [heldBy] at h
 | k,x::rs,h=>by
  rw [cQ] at h
  rcases Y1.mp h with h | h
  ·obtain ⟨rfl,a,b,c⟩:=pC h
   exact ⟨Jm _,x,by simp,a,b,c⟩
  ·obtain ⟨a,r,b,c⟩:=gk (rs:=rs) h
   refine ⟨by omega,r,?_,c⟩
   rw [show n-k=(n-(k+1))+1 by omega,List.getElem?_cons_succ]
   exact b
theorem c8 {t u:Int} {n:Nat} {r:Rec} (h1:r.st=.held) (h2:r.til=some u) (h3:u≤t) : ∀ {k:Nat} {rs:List Rec},rs[n]? = some r→(u,k+n)∈heldBy t k rs
 | k,[],h=>by simp at h
 | k,x::rs,h=>by
  rw [cQ]
  cases n with
  | zero =>
   cases h
   unfold xn
   rw [h1,h2]
   dsimp only
   rw [J3 h3]
   simp
  | succ n =>
   rw [List.getElem?_cons_succ] at h
   have z:=c8 (k:=k+1) (n:=n) h1 h2 h3 h
   rw [show k+(n+1)=k+1+n by omega]
   exact Yc _ z
theorem kx {a c:Int × Nat} : yU a c=true↔a.1<c.1∨(a.1=c.1∧a.2<c.2):=by
 unfold yU
 by_cases e:a.1=c.1
 ·rw [J3 e,Jx];omega
 ·rw [J0 e,Jx];omega
theorem cx:∀ {l:List (Int × Nat)} {p:Int × Nat},xi l=some p→p∈l∧∀ q∈l,¬ (q.1<p.1∨(q.1=p.1∧q.2<p.2))
 | [],p,h=>by cases h
 | x::l,p,h=>by
  unfold xi at h
  cases e:xi l with
  | none =>
   rw [e] at h
   cases h
   have ln:l=[]:=by
    cases l with
    | nil=>rfl
    | cons y l =>
     unfold xi at e
     cases e2:xi l with
     | none=>rw [e2] at e;cases e
     | some z =>
      rw [e2] at e
      dsimp only at e
      by_cases c:yU z y=true
      ·rw [J3 c] at e;cases e
      ·rw [J0 c] at e;cases e
   subst ln
   refine ⟨Jb,fun q hq=>?_⟩
   rw [Y5.mp hq]
   omega
  | some z =>
   obtain ⟨a1,a2⟩:=cx e
   rw [e] at h
   dsimp only at h
   by_cases c:yU z x=true
   ·rw [J3 c] at h
    cases h
    have c':=kx.mp c
    refine ⟨Jd _ a1,fun q hq=>?_⟩
    rcases List.mem_cons.mp hq with rfl | hq
    ·omega
    ·exact a2 q hq
   ·rw [J0 c] at h
    cases h
    have c':¬ (z.1<x.1∨(z.1=x.1∧z.2<x.2)):=fun q=>c (kx.mpr q)
    refine ⟨Jb,fun q hq=>?_⟩
    rcases List.mem_cons.mp hq with rfl | hq
    ·omega
    ·have:=a2 q hq
     omega
theorem mr {l:List (Int × Nat)} (h:xi l=none) : l=[]:=by
 cases l with
 | nil=>rfl
 | cons y l =>
  unfold xi at h
  cases e2:xi l with
  | none=>rw [e2] at h;cases h
  | some z =>
   rw [e2] at h
   dsimp only at h
   by_cases c:yU z y=true
   ·rw [J3 c] at h;cases h
   ·rw [J0 c] at h;cases h
theorem at_of {b:vY} {n:Nat} {r:Rec} (h:b.all[n]? = some r) : b.at n=r:=by unfold vY.at;rw [Jj,h,Yi]
theorem bw {b:vY} {t u:Int} {n:Nat} (h:b.first t=some (u,n)) : n<b.all.length∧(b.at n).st=.held∧(b.at n).til=some u∧u≤t:=by
 obtain ⟨a,r,e,h1⟩:=gk (cx h).1
 rw [Nat.sub_zero] at e
 refine ⟨(Jg.mp e).1,?_⟩
 rw [at_of e]
 exact h1
theorem fg {b:vY} {t:Int} (h:b.first t=none) : heldBy t 0 b.all=[]:=mr h
def wA (rs:List Rec) : Nat:=rs.countP fun r=>decide (r.st≠.gone)
theorem mv {rs:List Rec} {n:Nat} {r:Rec} (hn:n<rs.length) : wA (rs.set n r)+(if decide (rs[n].st≠.gone)=true then 1 else 0)=wA rs+if decide (r.st≠.gone)=true then 1 else 0:=by
 unfold wA
 rw [List.countP_set (h:=hn)]
 by_cases c:decide (rs[n].st≠.gone)=true
 ·have : 0<rs.countP fun r=>decide (r.st≠.gone):=List.countP_pos_iff.mpr ⟨_,Yf hn,c⟩
  rw [J3 c]
  omega
 ·rw [J0 c]
  omega
theorem gm {b:vY} {n:Nat} (hn:n<b.all.length) : b.at n=b.all[n]:=at_of (Ja hn)
theorem nA {b:vY} {s:Nat} (O:b.Ok) (hs:s<b.rooms.length) : wA (b.serve s).1.all=wA b.all:=by
 refine dU (s:=s) (fun b o=>wA o.1.all=wA b.all) (fun b O _ _=>rfl) (fun b n r o O hs h c O1 z=>?_) _ b rfl O hs
 rw [z]
 obtain ⟨a1,a2,a3⟩:=O.row s n (by rw [h];exact Jb)
 have e:=mv (r:=(b.at n).hold b.now) a1
 rw [← gm a1,a2] at e
 have e2:decide (((b.at n).hold b.now).st≠.gone)=true:=rfl
 rw [J3 e2,J3 (by decide)] at e
 show wA (b.all.set n ((b.at n).hold b.now))=_
 omega
theorem gn {b:vY} (O:b.Ok) {n:Nat} (hn:n<b.all.length) (hg:(b.at n).st≠.gone) : wA (b.leave n).1.all+1=wA b.all:=by
 rw [cX,nA (cW O hn) (cv O hn)]
 have e:=mv (r:=(b.at n).go) hn
 rw [← gm hn,J3 (Je hg),J0 (by show ¬ decide (Stt.gone≠Stt.gone)=true;decide)] at e
 exact e
theorem bg (b:vY) : wA b.all≤b.all.length:=List.countP_le_length
theorem bf {t:Int} {b:vY} {k:Nat} (h:b.first t=none) : b.wj t k=({ b with now:=t },[]):=by
 cases k with
 | zero=>rfl
 | succ k=>unfold vY.wj;rw [h]
theorem ba {t:Int} {b:vY} {k:Nat} {u:Int} {n:Nat} (h:b.first t=some (u,n)) (O:b.Ok) (hk:wA b.all≤k) : ∃ j,k=j+1 ∧
  b.wj t k=((vY.wj t j (vY.leave { b with now:=u } n).1).1,((u,n,false)::(vY.leave { b with now:=u } n).2.map fun m=>(u,m,true))++(vY.wj t j (vY.leave { b with now:=u } n).1).2)∧wA (vY.leave { b with now:=u } n).1.all≤j:=by
 obtain ⟨hn,hs,_⟩:=bw h
 have z:=gn (b:={ b with now:=u }) (O.now u) (n:=n) hn (by show (b.at n).st≠.gone;rw [hs];decide)
 have z':wA (vY.leave { b with now:=u } n).1.all+1=wA b.all:=z
 cases k with
 | zero=>omega
 | succ j =>
  refine ⟨j,rfl,?_,by omega⟩
  conv=>lhs;unfold vY.wj
  rw [h]
theorem dz {t:Int} : ∀ (k:Nat) (b:vY),b.Ok→wA b.all≤k→(b.wj t k).1.Ok∧(b.wj t k).1.rooms=b.rooms∧(b.wj t k).1.all.length=b.all.length∧(b.wj t k).1.now=t
 | k,b,O,hk=>by
  cases h:b.first t with
  | none=>rw [bf h];exact ⟨O.now t,rfl,rfl,rfl⟩
  | some p =>
   obtain ⟨u,n⟩:=p
   obtain ⟨hn,_⟩:=bw h
   obtain ⟨j,e1,e,hj⟩:=ba h O hk
   have S:=bQ (O.now u) (n:=n) hn
   rw [e]
   have ih:=dz (t:=t) j _ S.ok hj
   exact ⟨ih.1,ih.2.1.trans S.rooms,ih.2.2.1.trans S.len,ih.2.2.2⟩
 termination_by k=>k
end Kp
namespace Kp
open PySem L2
def sq (k:Bool) (xs:List V) : HO:=match k with
 | true=>.lst xs
 | false=>.tup xs
def tyN (k:Bool) : String:=match k with
 | true=>"list"
 | false=>"tuple"
theorem fh {K:Ay} {H:Hp} {a:Addr} {xs:List V} {k:Bool} (h:H a=some (sq k xs)) : xK K H (.ref a) (.type (tyN k)):=by
 cases k with
 | true=>exact .lst h
 | false=>exact .tup h
theorem rB {K:Ay} {H:Hp} {a:Addr} {xs:List V} {k:Bool} (h:H a=some (sq k xs)) : SqL K H a xs∨SqT K H a xs:=by
 cases k with
 | true=>exact .inl (SqL.of h)
 | false=>exact .inr (SqT.of h)
mutual
inductive Alike (H:Hp) : V→V→Nat→Prop
 | int (i:Int) : Alike H (.int i) (.int i) 1
 | str (x:Str) : Alike H (.str x) (.str x) 1
 | non:Alike H .non .non 1
 | seq {k:Bool} {a b:Addr} {xs ys:List V} {n:Nat} : H a=some (sq k xs)→H b=some (sq k ys)→xo H xs ys n→Alike H (.ref a) (.ref b) (n+1)
inductive xo (H:Hp) : List V→List V→Nat→Prop
 | nil:xo H [] [] 0
 | cons {x y:V} {xs ys:List V} {m n:Nat} : Alike H x y m→xo H xs ys n→xo H (x::xs) (y::ys) (m+n)
end
theorem Alike.pos {H:Hp} {x y:V} {n:Nat} (h:Alike H x y n) : 1≤n:=by
 cases h <;> omega
theorem xo.len {H:Hp} : ∀ {xs ys:List V} {n:Nat},xo H xs ys n→xs.length=ys.length∧xs.length≤n
 | _,_,_,.nil=>⟨rfl,Jm _⟩
 | _,_,_,.cons h t=>by
  have:=t.len
  have:=h.pos
  simp only [Jy]
  omega
structure Z where
 p:Addr
 x:V
 y:V
 n:Nat
def refs (zs:List Z) : List V:=zs.map fun z=>V.ref z.p
def tot (zs:List Z) : Nat:=(zs.map Z.n).sum
structure Stk (H0 H:Hp) (td:Addr) (zs:List Z) : Prop where
 new:H0 td=none
 same:wm H0 H
 at_:H td=some (.lst (refs zs))
 all:∀ z∈zs,H z.p=some (.tup [z.x,z.y])∧Alike H0 z.x z.y z.n
theorem oz (a b:List Z) : tot (a++b)=tot a+tot b:=by simp [tot]
theorem Stk.long {H0 H:Hp} {td:Addr} {zs:List Z} (s:Stk H0 H td zs) : zs.length≤tot zs:=by
 have h:∀ zs:List Z,(∀ z∈zs,1≤z.n)→zs.length≤tot zs:=by
  intro zs
  induction zs with
  | nil=>intro _;exact Jm _
  | cons z zs ih =>
   intro h
   have h1:=ih fun y hy=>h y (Jd _ hy)
   have h2:=h z Jb
   have e:tot (z::zs)=z.n+tot zs:=by simp [tot]
   simp only [Jy]
   omega
 exact h zs fun z hz=>(s.all z hz).2.pos
theorem Stk.more {H0 H H':Hp} {td:Addr} {zs:List Z} (s:Stk H0 H td zs) (g:wm H H') : Stk H0 H' td zs :=
 ⟨s.new,s.same.trans g,g _ _ s.at_,fun z hz=>⟨g _ _ (s.all z hz).1,(s.all z hz).2⟩⟩
theorem Stk.put {H0 H:Hp} {td:Addr} {zs zs':List Z} (s:Stk H0 H td zs) (sub:∀ z∈zs',H z.p=some (.tup [z.x,z.y])∧Alike H0 z.x z.y z.n) : Stk H0 (upd H td (.lst (refs zs'))) td zs' :=
 ⟨s.new,fun b o e=>by rw [ao (aE e s.new)];exact s.same b o e,af,fun z hz=>⟨by rw [ao (bS (sub z hz).1 s.at_ (by intro q;cases q))];exact (sub z hz).1,(sub z hz).2⟩⟩
theorem oA {α:Type} : ∀ l:List α,l≠[]→∃ i z,l=i++[z]
 | [],h=>absurd rfl h
 | [x],_=>⟨[],x,rfl⟩
 | x::y::r,_=>by
  obtain ⟨i,z,e⟩:=oA (y::r) (by simp)
  exact ⟨x::i,z,by rw [e];rfl⟩
theorem iH (i:List Z) (z:Z) : refs (i++[z])=refs i++[.ref z.p]:=by simp [refs]
theorem uw {α:Type} (i:List α) (z : α) : (i++[z])[(i++[z]).length-1]? = some z:=by simp
theorem nB {H:Hp} {xs ys:List V} {r i:Nat} (h:xo H (xs.drop i) (ys.drop i) r) (hi:i<ys.length) (hx:i<xs.length) :
  ∃ x y m n',r=m+n'∧xs[i]? = some x∧ys[i]? = some y∧Alike H x y m∧xo H (xs.drop (i+1)) (ys.drop (i+1)) n':=by
 rw [List.drop_eq_getElem_cons hx,List.drop_eq_getElem_cons hi] at h
 cases h with
 | cons a t=>exact ⟨_,_,_,_,rfl,Ja hx,Ja hi,a,t⟩
def Push (H0:Hp) (xs ys:List V) (m i:Nat) (H:Hp) (td:Addr) (zs:List Z) : Prop :=
 ∃ (r:Nat),Stk H0 H td zs∧xo H0 (xs.drop i) (ys.drop i) r∧tot zs+r≤m
theorem u4 {K:Ay} {H:Hp} {a:Addr} {xs:List V} {i:Nat} {x:V} {Q:VK} {k:Bool} (h:H a=some (sq k xs)) (hx:xs[i]? = some x) (q:Q x H) : rIx K (.ref a) (.int (0+(i:Nat))) H Q:=by
 have e:atI xs (0+((i:Nat) : Int))=some x:=by rw [Int.zero_add];exact cU hx
 cases k with
 | true=>exact .inl ⟨a,xs,_,x,rfl,rfl,SqL.of h,e,q⟩
 | false=>exact .inr (.inl ⟨a,xs,_,x,rfl,rfl,SqT.of h,e,q⟩)
theorem lD:([V.ty "a",V.ty "b"] : List V).length≤sizeLine:=by show 2≤sizeLine;decide
section
variable {K:Ay}
theorem pE:PySem.W.kitAny K (.type "int") (["list","tuple"].map Value.type)=some false:=by kernel_rfl
theorem pF:PySem.W.kitAny K (.type "str") (["list","tuple"].map Value.type)=some false:=by kernel_rfl
theorem pG:PySem.W.kitAny K (.type "NoneType") (["list","tuple"].map Value.type)=some false:=by kernel_rfl
theorem rC (k:Bool) : PySem.W.kitAny K (.type (tyN k)) (["list","tuple"].map Value.type)=some true:=by
 cases k with
 | true=>kernel_rfl
 | false=>kernel_rfl
theorem pH:PySem.W.kitOne K (.type "int") (.type "str")=some false:=by kernel_rfl
theorem kz:PySem.W.kitOne K (.type "str") (.type "str")=some true:=by kernel_rfl
theorem gZ (k:Bool) : PySem.W.kitOne K (.type (tyN k)) (.type "list")=some k:=by
 cases k with
 | true=>kernel_rfl
 | false=>kernel_rfl
theorem mw (k:Bool) : PySem.W.kitOne K (.type (tyN k)) (.type "tuple")=some (!k):=by
 cases k with
 | true=>kernel_rfl
 | false=>kernel_rfl
end
mutual
def wB:Dt→Nat
 | .int _=>1
 | .str _=>1
 | .non=>1
 | .seq _ ds=>xc ds+1
def xc:List Dt→Nat
 | []=>0
 | d::ds=>wB d+xc ds
end
theorem u5 (k:Bool) (xs:List V) : sq k xs=if k=true then .lst xs else .tup xs:=by cases k <;> rfl
mutual
theorem g0 {F G:List Addr} {H:Hp} : ∀ {D:Dt} {x y:V},Rep F H D x→Rep G H D y→Alike H x y (wB D)
 | .int i,x,y,h,g=>by
  unfold Rep at h g
  subst h;subst g
  unfold wB
  exact .int i
 | .str i,x,y,h,g=>by
  unfold Rep at h g
  subst h;subst g
  unfold wB
  exact .str i
 | .non,x,y,h,g=>by
  unfold Rep at h g
  subst h;subst g
  unfold wB
  exact .non
 | .seq k ds,x,y,h,g=>by
  unfold Rep at h g
  obtain ⟨a,xs,rfl,_,ha,ra⟩:=h
  obtain ⟨b,ys,rfl,_,hb,rb⟩:=g
  unfold wB
  exact .seq (k:=k) (by rw [u5];exact ha) (by rw [u5];exact hb) (kA ra rb)
theorem kA {F G:List Addr} {H:Hp} : ∀ {ds:List Dt} {xs ys:List V},wt F H ds xs→wt G H ds ys→xo H xs ys (xc ds)
 | [],xs,ys,h,g=>by
  unfold wt at h g
  subst h;subst g
  unfold xc
  exact .nil
 | d::ds,xs,ys,h,g=>by
  unfold wt at h g
  obtain ⟨x,xs',rfl,r1,r2⟩:=h
  obtain ⟨y,ys',rfl,q1,q2⟩:=g
  unfold xc
  exact .cons (g0 r1 q1) (kA r2 q2)
end
end Kp
namespace Kp
open PySem L2
theorem huge {n:Nat} (h:n≤16000000) : n<sizeLine:=Nat.lt_of_le_of_lt h (by decide)
structure Step (b:vY) (o:vY × Dt) : Prop where
 ok:o.1.Ok
 rooms:o.1.rooms=b.rooms
 grow:o.1.all.length≤b.all.length+1
 kept:b.all.length≤o.1.all.length
theorem Step.stay {b:vY} (O:b.Ok) (d:Dt) : Step b (b,d):=⟨O,rfl,Nat.le_succ _,Jm _⟩
theorem xB.step {b:vY} {o:vY × List Nat} {d:Dt} (S:xB b o) : Step b (o.1,d):=⟨S.ok,S.rooms,by show o.1.all.length≤_;rw [S.len];exact Nat.le_succ _,by show _≤o.1.all.length;rw [S.len];exact Jm _⟩
theorem xB.yD {b:vY} {n:Nat} {r:Rec} {o:vY × List Nat} (S:xB { b with all:=b.all.set n r } o) : xB b o:=⟨S.ok,S.rooms,S.len.trans (Jt ..),S.now⟩
theorem cR {b:vY} {t:Int} (h:¬ b.wo t=false) : t.toNat<b.rooms.length:=by
 unfold vY.wo at h
 simp only [Bool.not_eq_false,Yb,decide_eq_true_eq] at h
 omega
theorem bJ {b:vY} {t:Int} (h:¬ b.live t=false) : t.toNat<b.all.length∧(b.at t.toNat).st≠.gone:=by
 unfold vY.live vY.wZ at h
 simp only [Bool.not_eq_false,Yb,decide_eq_true_eq] at h
 exact ⟨by omega,h.2⟩
theorem di {b:vY} (O:b.Ok) (dd:wd) : Step b (b.done dd):=by
 cases dd with
 | keep w s m p =>
  show Step b (b.enter w s m p)
  unfold vY.enter
  by_cases c:b.wo s=false
  ·rw [J3 c];exact .stay O _
  rw [J0 c]
  by_cases c1:m<1
  ·rw [J3 c1];exact .stay O _
  rw [J0 c1]
  by_cases c2:b.rooms.getD s.toNat 0<m
  ·rw [J3 c2];exact .stay O _
  rw [J0 c2]
  by_cases c3:p<1
  ·rw [J3 c3];exact .stay O _
  rw [J0 c3]
  have hs:=cR c
  have O2:=O.enter (r:=⟨w,s.toNat,m,p,.waiting,none⟩) hs rfl rfl
  have S:=cm (s:=s.toNat) O2 hs
  exact ⟨S.ok,S.rooms,Nat.le_of_eq (S.len.trans (by simp)),Ju (Nat.le_succ _) (Nat.le_of_eq (S.len.trans (by simp)).symm)⟩
 | take n =>
  show Step b (if b.live n=false then _ else b.wW n.toNat)
  by_cases c:b.live n=false
  ·rw [J3 c];exact .stay O _
  rw [J0 c]
  obtain ⟨hn,hg⟩:=bJ c
  unfold vY.wW
  by_cases c1:(b.at n.toNat).st=.held
  ·rw [J3 c1]
   refine ⟨O.put (r:={ b.at n.toNat with st:=.taken,til:=none }) hn (O.shw _ hn) ⟨(by intro q;cases q),fun q=>by rw [c1] at q;cases q⟩ (by intro q;cases q) ⟨(by intro q;cases q),fun q=>absurd rfl q⟩,rfl,?_,?_⟩
   ·show (b.all.set _ _).length≤_;rw [Jt];exact Nat.le_succ _
   ·show _≤(b.all.set _ _).length;rw [Jt];exact Jm _
  ·rw [J0 c1];exact .stay O _
 | back n =>
  show Step b (if b.live n=false then _ else ((b.leave n.toNat).1,wY (b.leave n.toNat).2))
  by_cases c:b.live n=false
  ·rw [J3 c];exact .stay O _
  rw [J0 c]
  exact (bQ O (bJ c).1).step
 | part n m =>
  show Step b (if b.live n=false then _ else b.wV n.toNat m)
  by_cases c:b.live n=false
  ·rw [J3 c];exact .stay O _
  rw [J0 c]
  obtain ⟨hn,hg⟩:=bJ c
  unfold vY.wV
  by_cases c1:m<1
  ·rw [J3 c1];exact .stay O _
  rw [J0 c1]
  by_cases c2:(b.at n.toNat).many≤m
  ·rw [J3 c2];exact .stay O _
  rw [J0 c2]
  have O3:=O.put (r:={ b.at n.toNat with many:=(b.at n.toNat).many-m }) hn (O.shw _ hn) Iff.rfl (fun _=>rfl) (O.til _ hn)
  exact (cm (s:=(b.at n.toNat).shw) O3 (O.shw _ hn)).yD.step
 | move n s =>
  show Step b (if b.live n=false then _ else b.moveTo n.toNat s)
  by_cases c:b.live n=false
  ·rw [J3 c];exact .stay O _
  rw [J0 c]
  obtain ⟨hn,hg⟩:=bJ c
  unfold vY.moveTo
  by_cases c1:b.wo s=false
  ·rw [J3 c1];exact .stay O _
  rw [J0 c1]
  by_cases c2:(b.at n.toNat).st=.waiting
  ·rw [J3 c2];exact .stay O _
  rw [J0 c2]
  by_cases c3:((b.at n.toNat).shw:Int)=s
  ·rw [J3 c3];exact .stay O _
  rw [J0 c3]
  by_cases c4:b.rows.getD s.toNat []≠[]∨b.spare s.toNat<(b.at n.toNat).many
  ·rw [J3 c4];exact .stay O _
  rw [J0 c4]
  have O3:=O.put (r:={ b.at n.toNat with shw:=s.toNat }) hn (cR c1) Iff.rfl (fun q=>absurd q c2) (O.til _ hn)
  exact (cm (s:=(b.at n.toNat).shw) O3 (O.shw _ hn)).yD.step
 | pass n w =>
  show Step b (if b.live n=false then _ else ({ b with all:=b.all.set n.toNat { b.at n.toNat with who:=w } },Dt.str "passed"))
  by_cases c:b.live n=false
  ·rw [J3 c];exact .stay O _
  rw [J0 c]
  obtain ⟨hn,hg⟩:=bJ c
  refine ⟨O.put (r:={ b.at n.toNat with who:=w }) hn (O.shw _ hn) Iff.rfl (fun _=>rfl) (O.til _ hn),rfl,?_,?_⟩
  ·show (b.all.set _ _).length≤_;rw [Jt];exact Nat.le_succ _
  ·show _≤(b.all.set _ _).length;rw [Jt];exact Jm _
 | clock t =>
  show Step b (if t<b.now then (b,Dt.str "too early") else ((b.clock t).1,w9 (b.clock t).2))
  by_cases c:t<b.now
  ·rw [J3 c];exact .stay O _
  rw [J0 c]
  obtain ⟨h1,h2,h3,_⟩:=dz (t:=t) b.all.length b O (bg b)
  exact ⟨h1,h2,Nat.le_succ_of_le (Nat.le_of_eq h3),Nat.le_of_eq h3.symm⟩
 | free s =>
  show Step b (if b.wo s=false then _ else _)
  by_cases c:b.wo s=false
  ·rw [J3 c];exact .stay O _
  rw [J0 c];exact .stay O _
 | row s =>
  show Step b (if b.wo s=false then _ else _)
  by_cases c:b.wo s=false
  ·rw [J3 c];exact .stay O _
  rw [J0 c];exact .stay O _
 | state n =>
  show Step b (if b.wZ n=false then _ else _)
  by_cases c:b.wZ n=false
  ·rw [J3 c];exact .stay O _
  rw [J0 c];exact .stay O _
theorem fT {α:Type} {f : α→Dt} {k:Nat} (h:∀ x,wB (f x)≤k) : ∀ xs:List α,xc (xs.map f)≤k*xs.length
 | []=>by show xc []≤_;unfold xc;exact Nat.zero_le _
 | x::xs=>by
  rw [List.map_cons]
  unfold xc
  have:=fT h xs
  have:=h x
  rw [Jy,Nat.mul_succ]
  omega
theorem cF (i:Int) : wB (.int i)=1:=by unfold wB;rfl
theorem d9 (i:Str) : wB (.str i)=1:=by unfold wB;rfl
theorem mx (t:Option Int) : wB (x5 t)=1:=by cases t <;> (unfold x5 wB;rfl)
theorem dB (k:Bool) (ds:List Dt) : wB (.seq k ds)=xc ds+1:=by conv=>lhs;unfold wB
theorem eR:xc []=0:=by unfold xc;rfl
theorem bc (d:Dt) (ds:List Dt) : xc (d::ds)=wB d+xc ds:=by conv=>lhs;unfold xc
theorem pI (ns:List Nat) : wB (wY ns)≤ns.length+1:=by
 unfold wY
 rw [dB]
 have:=fT (f:=fun n:Nat=>Dt.int (n:Nat)) (k:=1) (fun n=>by rw [cF];exact Jm _) ns
 omega
theorem pJ (ts:Told) : wB (w9 ts)≤4*ts.length+1:=by
 unfold w9
 rw [dB]
 have:=fT (f:=fun t:Int × Nat × Bool=>Dt.tup [.int t.1,.int (t.2.1:Nat),.str (if t.2.2=true then "held" else "lapsed")]) (k:=4) (fun t=>by rw [dB,bc,bc,bc,eR,cF,cF,d9];exact Jm _) ts
 omega
theorem hJ {t:Int} : ∀ (k:Nat) (b:vY),b.Ok→wA b.all≤k→(b.wj t k).2.length≤wA b.all*(b.all.length+1)
 | k,b,O,hk=>by
  cases h:b.first t with
  | none=>rw [bf h];exact Nat.zero_le _
  | some p =>
   obtain ⟨u,n⟩:=p
   obtain ⟨hn,hst,_⟩:=bw h
   obtain ⟨j,e1,e,hj⟩:=ba h O hk
   have S:=bQ (O.now u) (n:=n) hn
   have L:=gn (b:={ b with now:=u }) (O.now u) (n:=n) hn (by show (b.at n).st≠.gone;rw [hst];decide)
   have ih:=hJ (t:=t) j _ S.ok hj
   have sh:=cu (cW (O.now u) (n:=n) hn) (cv (O.now u) (n:=n) hn)
   rw [← cX,d8] at sh
   replace sh:(vY.leave { b with now:=u } n).2.length≤b.all.length:=sh
   rw [S.len] at ih
   replace ih : _≤wA (vY.leave { b with now:=u } n).1.all*(b.all.length+1):=ih
   replace L:wA (vY.leave { b with now:=u } n).1.all+1=wA b.all:=L
   rw [e,← L,Nat.succ_mul]
   simp only [Jc,Jy,J9]
   omega
 termination_by k=>k
theorem kB {b:vY} (O:b.Ok) (hl:b.all.length<64) (dd:wd) : wB (b.done dd).2≤16400:=by
 have sm:∀ x:Str,wB (.str x)≤16400:=fun x=>by rw [d9];decide
 have nm:∀ ns:List Nat,ns.length≤64→wB (wY ns)≤16400:=fun ns h=>by have:=pI ns;omega
 cases dd with
 | keep w s m p =>
  show wB (b.enter w s m p).2≤_
  unfold vY.enter
  by_cases c:b.wo s=false
  ·rw [J3 c];exact sm _
  rw [J0 c]
  by_cases c1:m<1
  ·rw [J3 c1];exact sm _
  rw [J0 c1]
  by_cases c2:b.rooms.getD s.toNat 0<m
  ·rw [J3 c2];exact sm _
  rw [J0 c2]
  by_cases c3:p<1
  ·rw [J3 c3];exact sm _
  rw [J0 c3]
  show wB (.tup [.int _,.str _])≤_
  rw [dB,bc,bc,eR,cF,d9]
  decide
 | take n =>
  show wB (if b.live n=false then (b,Dt.str "no keeping") else b.wW n.toNat).2≤_
  by_cases c:b.live n=false
  ·rw [J3 c];exact sm _
  rw [J0 c]
  unfold vY.wW
  by_cases c1:(b.at n.toNat).st=.held
  ·rw [J3 c1];exact sm _
  ·rw [J0 c1];exact sm _
 | back n =>
  show wB (if b.live n=false then (b,Dt.str "no keeping") else ((b.leave n.toNat).1,wY (b.leave n.toNat).2)).2≤_
  by_cases c:b.live n=false
  ·rw [J3 c];exact sm _
  rw [J0 c]
  have hn:=(bJ c).1
  have sh:=cu (cW O hn) (cv O hn)
  rw [← cX,d8] at sh
  exact nm _ (by omega)
 | part n m =>
  show wB (if b.live n=false then (b,Dt.str "no keeping") else b.wV n.toNat m).2≤_
  by_cases c:b.live n=false
  ·rw [J3 c];exact sm _
  rw [J0 c]
  obtain ⟨hn,hg⟩:=bJ c
  unfold vY.wV
  by_cases c1:m<1
  ·rw [J3 c1];exact sm _
  rw [J0 c1]
  by_cases c2:(b.at n.toNat).many≤m
  ·rw [J3 c2];exact sm _
  rw [J0 c2]
  have O3:=O.put (r:={ b.at n.toNat with many:=(b.at n.toNat).many-m }) hn (O.shw _ hn) Iff.rfl (fun _=>rfl) (O.til _ hn)
  have sh:=cu (s:=(b.at n.toNat).shw) O3 (O.shw _ hn)
  refine nm _ (Ju sh ?_)
  show (b.all.set _ _).length≤_
  rw [Jt]
  omega
 | move n s =>
  show wB (if b.live n=false then (b,Dt.str "no keeping") else b.moveTo n.toNat s).2≤_
  by_cases c:b.live n=false
  ·rw [J3 c];exact sm _
  rw [J0 c]
  obtain ⟨hn,hg⟩:=bJ c
  unfold vY.moveTo
  by_cases c1:b.wo s=false
  ·rw [J3 c1];exact sm _
  rw [J0 c1]
  by_cases c2:(b.at n.toNat).st=.waiting
  ·rw [J3 c2];exact sm _
  rw [J0 c2]
  by_cases c3:((b.at n.toNat).shw:Int)=s
  ·rw [J3 c3];exact sm _
  rw [J0 c3]
  by_cases c4:b.rows.getD s.toNat []≠[]∨b.spare s.toNat<(b.at n.toNat).many
  ·rw [J3 c4];exact sm _
  rw [J0 c4]
  have O3:=O.put (r:={ b.at n.toNat with shw:=s.toNat }) hn (cR c1) Iff.rfl (fun q=>absurd q c2) (O.til _ hn)
  have sh:=cu (s:=(b.at n.toNat).shw) O3 (O.shw _ hn)
  refine nm _ (Ju sh ?_)
  show (b.all.set _ _).length≤_
  rw [Jt]
  omega
 | pass n w =>
  show wB (if b.live n=false then (b,Dt.str "no keeping") else ({ b with all:=b.all.set n.toNat { b.at n.toNat with who:=w } },Dt.str "passed")).2≤_
  by_cases c:b.live n=false
  ·rw [J3 c];exact sm _
  ·rw [J0 c];exact sm _
 | clock t =>
  show wB (if t<b.now then (b,Dt.str "too early") else ((b.clock t).1,w9 (b.clock t).2)).2≤_
  by_cases c:t<b.now
  ·rw [J3 c];exact sm _
  rw [J0 c]
  have h1:=hJ (t:=t) b.all.length b O (bg b)
  have h2:=pJ (b.clock t).2
  have h3:wA b.all*(b.all.length+1)≤63*64:=Nat.mul_le_mul (by have:=bg b;omega) (by omega)
  have h4:(b.clock t).2.length≤wA b.all*(b.all.length+1):=h1
  show wB (w9 (b.clock t).2)≤_
  omega
 | free s =>
  show wB (if b.wo s=false then (b,Dt.str "no show") else (b,Dt.int (b.spare s.toNat))).2≤_
  by_cases c:b.wo s=false
  ·rw [J3 c];exact sm _
  ·rw [J0 c];show wB (.int _)≤_;rw [cF];decide
 | row s =>
  show wB (if b.wo s=false then (b,Dt.str "no show") else (b,wY (b.rows.getD s.toNat []))).2≤_
  by_cases c:b.wo s=false
  ·rw [J3 c];exact sm _
  ·rw [J0 c];exact nm _ (Ju (O.len _) (by omega))
 | state n =>
  show wB (if b.wZ n=false then (b,Dt.str "no keeping") else (b,Dt.tup [.str (b.at n.toNat).who,.int ((b.at n.toNat).shw:Nat),.int (b.at n.toNat).many,.str (b.at n.toNat).st.txt,x5 (b.at n.toNat).til])).2≤_
  by_cases c:b.wZ n=false
  ·rw [J3 c];exact sm _
  ·rw [J0 c]
   show wB (.tup [_,_,_,_,_])≤_
   rw [dB,bc,bc,bc,bc,bc,eR,cF,d9,cF,d9,mx]
   decide
theorem cG (b:vY) (d:wd) (ds:List wd) : b.run (d::ds)=(((b.done d).1.run ds).1,(b.done d).2::((b.done d).1.run ds).2):=rfl
theorem ek (d:wd) : ∀ (ds:List wd) (b:vY),b.run (ds++[d])=(((b.run ds).1.done d).1,(b.run ds).2++[((b.run ds).1.done d).2])
 | [],b=>rfl
 | e::ds,b=>by
  rw [List.cons_append,cG,ek d ds,cG]
  rfl
theorem cH (rooms:List Int) : (vY.begun rooms).Ok:=by
 have e:∀ s,(rooms.map fun _=>([] : List Nat)).getD s []=[]:=fun s=>by
  rw [Jj,Jw]
  cases rooms[s]? <;> rfl
 have e':∀ s,(vY.begun rooms).rows.getD s []=[]:=e
 refine ⟨?_,fun n h=>absurd h (Y7 _),fun s n h=>?_,fun s=>?_,fun n h=>absurd h (Y7 _),fun n h=>absurd h (Y7 _),fun s=>?_⟩
 ·show rooms.length=(rooms.map _).length
  rw [J9]
 ·rw [e'] at h
  cases h
 ·rw [e']
  exact List.nodup_nil
 ·rw [e']
  exact Jm _
end Kp
namespace Kp
open PySem L2
mutual
def noL:Dt→Prop
 | .int _=>True
 | .str _=>True
 | .non=>True
 | .seq k ds=>k=false∧xI ds
def xI:List Dt→Prop
 | []=>True
 | d::ds=>noL d∧xI ds
end
def xO:Dt→Prop
 | .seq _ ds=>xI ds
 | _=>True
mutual
theorem Rep.beside {F:List Addr} {H:Hp} {q:Addr} {zs:List V} (hq:H q=some (.lst zs)) : ∀ {D:Dt} {v:V},noL D→Rep F H D v→Rep (q::F) H D v
 | .int i,v,_,h=>by unfold Rep at h ⊢;exact h
 | .str x,v,_,h=>by unfold Rep at h ⊢;exact h
 | .non,v,_,h=>by unfold Rep at h ⊢;exact h
 | .seq k ds,v,n,h=>by
  unfold noL at n
  obtain ⟨rfl,n⟩:=n
  unfold Rep at h ⊢
  obtain ⟨a,xs,rfl,na,ha,q'⟩:=h
  refine ⟨a,xs,rfl,fun m=>?_,ha,wt.beside hq n q'⟩
  rcases List.mem_cons.mp m with e | e
  ·rw [e,hq] at ha
   cases ha
  ·exact na e
theorem wt.beside {F:List Addr} {H:Hp} {q:Addr} {zs:List V} (hq:H q=some (.lst zs)) : ∀ {ds:List Dt} {xs:List V},xI ds→wt F H ds xs→wt (q::F) H ds xs
 | [],xs,_,h=>by unfold wt at h ⊢;exact h
 | d::ds,xs,n,h=>by
  unfold xI at n
  unfold wt at h ⊢
  obtain ⟨x,ys,rfl,r1,r2⟩:=h
  exact ⟨x,ys,rfl,Rep.beside hq n.1 r1,wt.beside hq n.2 r2⟩
end
theorem Rep.top {F:List Addr} {H:Hp} {q:Addr} {zs:List V} (hq:H q=some (.lst zs)) {D:Dt} {v:V} (n:xO D) (h:Rep F H D v) (nv:v≠.ref q) : Rep (q::F) H D v:=by
 cases D with
 | int i=>unfold Rep at h ⊢;exact h
 | str i=>unfold Rep at h ⊢;exact h
 | non=>unfold Rep at h ⊢;exact h
 | seq k ds =>
  unfold Rep at h ⊢
  obtain ⟨a,xs,rfl,na,ha,q'⟩:=h
  refine ⟨a,xs,rfl,fun m=>?_,ha,wt.beside hq n q'⟩
  rcases List.mem_cons.mp m with e | e
  ·exact nv (by rw [e])
  ·exact na e
theorem hU {α:Type} {f : α→Dt} (h:∀ x,noL (f x)) : ∀ xs:List α,xI (xs.map f)
 | []=>by show xI [];unfold xI;trivial
 | x::xs=>by rw [List.map_cons];unfold xI;exact ⟨h x,hU h xs⟩
theorem eF (i:Int) : noL (.int i):=by unfold noL;trivial
theorem hV (i:Str) : noL (.str i):=by unfold noL;trivial
theorem ux (t:Option Int) : noL (x5 t):=by cases t <;> (unfold x5 noL;trivial)
theorem hX:xI []:=by unfold xI;trivial
theorem bL {d:Dt} {ds:List Dt} (a:noL d) (b:xI ds) : xI (d::ds):=by unfold xI;exact ⟨a,b⟩
theorem oB {ds:List Dt} (a:xI ds) : noL (.tup ds):=by unfold noL;exact ⟨rfl,a⟩
theorem hZ (ns:List Nat) : xO (wY ns):=hU (fun n=>eF _) ns
theorem rD (ts:Told) : xO (w9 ts):=hU (fun t=>oB (bL (eF _) (bL (eF _) (bL (hV _) hX)))) ts
theorem my (b:vY) (dd:wd) : xO (b.done dd).2:=by
 have st:∀ x:Str,xO (.str x):=fun x=>trivial
 cases dd with
 | keep w s m p =>
  show xO (b.enter w s m p).2
  unfold vY.enter
  by_cases c:b.wo s=false
  ·rw [J3 c];exact st _
  rw [J0 c]
  by_cases c1:m<1
  ·rw [J3 c1];exact st _
  rw [J0 c1]
  by_cases c2:b.rooms.getD s.toNat 0<m
  ·rw [J3 c2];exact st _
  rw [J0 c2]
  by_cases c3:p<1
  ·rw [J3 c3];exact st _
  rw [J0 c3]
  exact bL (eF _) (bL (hV _) hX)
 | take n =>
  show xO (if b.live n=false then (b,Dt.str "no keeping") else b.wW n.toNat).2
  by_cases c:b.live n=false
  ·rw [J3 c];exact st _
  rw [J0 c]
  unfold vY.wW
  by_cases c1:(b.at n.toNat).st=.held
  ·rw [J3 c1];exact st _
  ·rw [J0 c1];exact st _
 | back n =>
  show xO (if b.live n=false then (b,Dt.str "no keeping") else ((b.leave n.toNat).1,wY (b.leave n.toNat).2)).2
  by_cases c:b.live n=false
  ·rw [J3 c];exact st _
  ·rw [J0 c];exact hZ _
 | part n m =>
  show xO (if b.live n=false then (b,Dt.str "no keeping") else b.wV n.toNat m).2
  by_cases c:b.live n=false
  ·rw [J3 c];exact st _
  rw [J0 c]
  unfold vY.wV
  by_cases c1:m<1
  ·rw [J3 c1];exact st _
  rw [J0 c1]
  by_cases c2:(b.at n.toNat).many≤m
  ·rw [J3 c2];exact st _
  rw [J0 c2]
  exact hZ _
 | move n s =>
  show xO (if b.live n=false then (b,Dt.str "no keeping") else b.moveTo n.toNat s).2
  by_cases c:b.live n=false
  ·rw [J3 c];exact st _
  rw [J0 c]
  unfold vY.moveTo
  by_cases c1:b.wo s=false
  ·rw [J3 c1];exact st _
  rw [J0 c1]
  by_cases c2:(b.at n.toNat).st=.waiting
  ·rw [J3 c2];exact st _
  rw [J0 c2]
  by_cases c3:((b.at n.toNat).shw:Int)=s
  ·rw [J3 c3];exact st _
  rw [J0 c3]
  by_cases c4:b.rows.getD s.toNat []≠[]∨b.spare s.toNat<(b.at n.toNat).many
  ·rw [J3 c4];exact st _
  rw [J0 c4]
  exact hZ _
 | pass n w =>
  show xO (if b.live n=false then (b,Dt.str "no keeping") else ({ b with all:=b.all.set n.toNat { b.at n.toNat with who:=w } },Dt.str "passed")).2
  by_cases c:b.live n=false
  ·rw [J3 c];exact st _
  ·rw [J0 c];exact st _
 | clock t =>
  show xO (if t<b.now then (b,Dt.str "too early") else ((b.clock t).1,w9 (b.clock t).2)).2
  by_cases c:t<b.now
  ·rw [J3 c];exact st _
  ·rw [J0 c];exact rD _
 | free s =>
  show xO (if b.wo s=false then (b,Dt.str "no show") else (b,Dt.int (b.spare s.toNat))).2
  by_cases c:b.wo s=false
  ·rw [J3 c];exact st _
  ·rw [J0 c];trivial
 | row s =>
  show xO (if b.wo s=false then (b,Dt.str "no show") else (b,wY (b.rows.getD s.toNat []))).2
  by_cases c:b.wo s=false
  ·rw [J3 c];exact st _
  ·rw [J0 c];exact hZ _
 | state n =>
  show xO (if b.wZ n=false then (b,Dt.str "no keeping") else (b,Dt.tup [.str (b.at n.toNat).who,.int ((b.at n.toNat).shw:Nat),.int (b.at n.toNat).many,.str (b.at n.toNat).st.txt,x5 (b.at n.toNat).til])).2
  by_cases c:b.wZ n=false
  ·rw [J3 c];exact st _
  ·rw [J0 c]
   exact bL (hV _) (bL (eF _) (bL (eF _) (bL (hV _) (bL (ux _) hX))))
structure zC (H0:Hp) (d:Addr) (acc:Addr) (H:Hp) (a:Adr) (b:vY) (ds:List Dt) (xs:List V) : Prop where
 pic:Pic H d a b
 ok:b.Ok
 same:wm H0 H
 foot:∀ x∈foot d a,H0 x=none
 new:H0 acc=none
 out:acc∉a.R::Kp.foot d a
 at_:H acc=some (.lst xs)
 reps:wt (acc::Kp.foot d a) H ds xs
theorem zC.step {H0:Hp} {d acc:Addr} {H H':Hp} {a a':Adr} {b:vY} {ds:List Dt} {xs:List V} {dd:wd} {v:V} (G:zC H0 d acc H a b ds xs) (A:After H d a H' a' (b.done dd).1) (r:Rep (Kp.foot d a') H' (b.done dd).2 v) (f:yC H v) :
  H' acc=some (.lst xs)∧zC H0 d acc (upd H' acc (.lst (xs++[v]))) a' (b.done dd).1 (ds++[(b.done dd).2]) (xs++[v]):=by
 have nf:acc∉Kp.foot d a:=fun m=>G.out (Jd _ m)
 have h1:=A.keep _ _ G.at_ nf
 have nf':acc∉Kp.foot d a':=fun m=>(A.ext acc m).elim nf fun z=>by rw [G.at_] at z;cases z
 have out':acc∉a'.R::Kp.foot d a':=fun m=>(List.mem_cons.mp m).elim (fun e=>G.out (by rw [e,A.rm];exact Jb)) nf'
 have s':wm H0 H':=fun x o h=>A.keep _ _ (G.same x o h) fun m=>by rw [G.foot x m] at h;cases h
 have nv:v≠.ref acc:=fun e=>by have:=f acc e;rw [G.at_] at this;cases this
 refine ⟨h1,A.pic.yV out',(di G.ok dd).ok,bx s' G.new _,fun x m=>?_,G.new,out',af,?_⟩
 ·rcases A.ext x m with z | z
  ·exact G.foot x z
  ·exact G.same.free z
 ·have kp:wH (acc::Kp.foot d a') H' (upd H' acc (.lst (xs++[v]))):=wH.refl.put (.inl Jb) _
  refine wt.snoc ((r.top h1 (my b dd) nv).step kp Ext.refl) ((G.reps.step A.keep.more fun x m=>?_).step kp Ext.refl)
  rcases List.mem_cons.mp m with e | e
  ·exact .inl (by rw [e];exact Jb)
  ·exact (A.ext x e).imp (Jd _) id
end Kp
namespace Kp
open PySem L2
def Trc (B h:Heap) (e:Addr) (vs:Array Value) : Prop :=
 vs[1]? = some .none∨∃ T oT ts,vs[1]? = some (.ref T)∧B.get? T=none∧T≠e∧h.get? T=some oT∧oT.data=.fields ts∧ts[3]? = some .none
structure Fly (B:Heap) (l:List Env) (e:Addr) (cls:Value) (dd:Option Addr) (h:Heap) : Prop where
 stays:B.StaysIn h
 new:B.get? e=none
 frames:h.FunFrames B l
 at_:∃ oe vs,h.get? e=some oe∧oe.cls=cls∧oe.dict=dd∧oe.data=.fields vs∧Trc B h e vs
theorem Fly.pop {B h:Heap} {env:Env} {l:List Env} {e:Addr} {cls:Value} {dd:Option Addr} (F:Fly B (env::l) e cls dd h) : Fly B l e cls dd h:=⟨F.stays,F.new,F.frames.2.2,F.at_⟩
theorem gp {o:Obj} {vs:Array Value} (h:o.data=.fields vs) (f:Array Value→Array Value) : Obj.mapFields f o={ o with data:=.fields (f vs) }:=by
 obtain ⟨a,b,c,d⟩:=o
 cases h
 rfl
section
variable {M:Model} {A:Around} {E:Value→Shared→Prop} {s:Shared}
theorem kC {B:Heap} {env:Env} {l:List Env} {p e:Addr} {oe:Obj} {vs:Array Value} {hd:Value} {more:Bool} {Q:Unit→Shared→Prop} (fr:A.frames=some (env::l)) (ff:s.heap.FunFrames B (env::l)) (pf:env.frame=some p)
  (ge:s.heap.get? e=some oe) (st:B.StaysIn s.heap) (ne:B.get? e=none) (de:oe.data=.fields vs) (sz : 1<vs.size)
  (k:∀ h',Fly B (env::l) e oe.cls oe.dict h'→s.heap.UpToSlots h'→Q () { s with heap:=h' }) :
  wpAny M A (do let a ← frameOf env;let pl ← entryPlaceOf p more;let b ← EntryCells.newEntry hd a .none (rawInt p) .none pl;setField (.ref e) 1 b) (fun _ t=>wpAny M A (setFlight (.ref e) none) Q E t) E s:=by
 have nfr:e∉(env::l).filterMap (·.frame):=fun m=>by
  obtain ⟨_,o,g,nf⟩:=ff.mem m
  rw [ge] at g
  cases g
  exact nf vs de
 refine Jf (wpAny_frameOf_fun fr ff pf fun hA so=>?_)
 refine Jf (wpAny_entryPlaceOf fun pl isP=>?_)
 unfold EntryCells.newEntry newFields
 refine Jf (wpAny_newObj_type ?_ (isP.sizeOk5 _ _ _ _ _))
 generalize hN:({ cls:=.type "traceback",dict:=none,data:=.fields ([hd,.ref p,.none,rawInt p,.none]++(if pl.isEmpty then List.replicate 6 Value.none else pl)).toArray } : Obj)=N
 have dN:N.data=.fields ([hd,.ref p,.none,rawInt p,.none]++(if pl.isEmpty then List.replicate 6 Value.none else pl)).toArray:=by rw [← hN]
 have fN:N.isFreed=false:=by rw [← hN];rfl
 have gA:hA.get? e=some oe:=(so.2.1 e nfr).trans ge
 have gP:=Jh (h:=hA) N gA
 have lt:e<hA.objs.size:=Jv gA
 have e1:=gp de (·.setIfInBounds 1 (Value.ref hA.objs.size))
 refine wpAny_setField gP de sz ?_
 have g3:((hA.push N).update e (Obj.mapFields (·.setIfInBounds 1 (Value.ref hA.objs.size)))).get? e=some { oe with data:=.fields (vs.setIfInBounds 1 (Value.ref hA.objs.size)) }:=by
  rw [← e1]
  refine Heap.get?_update_self _ gP ?_
  rw [e1]
  rfl
 have gT:((hA.push N).update e (Obj.mapFields (·.setIfInBounds 1 (Value.ref hA.objs.size)))).get? hA.objs.size=some N :=
  (Heap.get?_update_other _ _ (Nat.ne_of_lt lt)).trans (Heap.get?_push_size hA fN)
 have kp:∀ b o,b≠e→hA.get? b=some o→((hA.push N).update e (Obj.mapFields (·.setIfInBounds 1 (Value.ref hA.objs.size)))).get? b=some o:=fun b o nb g =>
  (Heap.get?_update_other _ _ (Ne.symm nb)).trans (Jh _ g)
 generalize (hA.push N).update e (Obj.mapFields (·.setIfInBounds 1 (Value.ref hA.objs.size)))=hB at g3 gT kp ⊢
 have v1:(vs.setIfInBounds 1 (Value.ref hA.objs.size))[1]? = some (.ref hA.objs.size):=by simp [sz]
 have s3 : 3<([hd,.ref p,.none,rawInt p,.none]++(if pl.isEmpty then List.replicate 6 Value.none else pl)).toArray.size:=by
  rw [Jk,Jc]
  show 3<5+_
  omega
 unfold setFlight
 refine Jf (wpAny_field g3 rfl v1 ?_)
 rw [J3 (show (Value.ref hA.objs.size != Value.none)=true from by simp)]
 refine wpAny_setField gT dN s3 ?_
 have e2:=gp dN (·.setIfInBounds 3 (Value.none))
 have nT:∀ b o,hA.get? b=some o→hA.objs.size≠b:=fun b o g=>Nat.ne_of_gt (Jv g)
 have g5:(hB.update hA.objs.size (Obj.mapFields (·.setIfInBounds 3 (Value.none)))).get? hA.objs.size=some { N with data:=.fields (([hd,.ref p,.none,rawInt p,.none]++(if pl.isEmpty then List.replicate 6 Value.none else pl)).toArray.setIfInBounds 3 .none) }:=by
  rw [← e2]
  refine Heap.get?_update_self _ gT ?_
  rw [e2]
  rfl
 have kp5:∀ b o,b≠e→hA.get? b=some o→(hB.update hA.objs.size (Obj.mapFields (·.setIfInBounds 3 (Value.none)))).get? b=some o:=fun b o nb g=>by
  rw [Heap.get?_update_other _ _ (nT b o g)]
  exact kp b o nb g
 have stA:B.StaysIn hA:=fun b o g=>(so.2.1 b fun m=>by rw [(ff.mem m).1] at g;cases g).trans (st b o g)
 have nob:∀ b o,s.heap.get? b=some o→(∀ us,o.data≠.fields us)→b≠e:=fun b o g nf q=>by
  rw [q,ge] at g
  cases g
  exact nf vs de
 have up:∀ b o,s.heap.get? b=some o→(∀ us,o.data≠.fields us)→∃ sl,(hB.update hA.objs.size (Obj.mapFields (·.setIfInBounds 3 (Value.none)))).get? b=some { o with slots:=sl }:=fun b o g nf=>by
  obtain ⟨sl,z⟩:=so.2.2 b o g
  exact ⟨sl,kp5 b _ (nob b o g nf) z⟩
 refine k _ ⟨fun b o g=>kp5 b o (fun q=>by rw [q,ne] at g;cases g) (stA b o g),ne,ff.of_keeps fun b o g nf=>?_,⟨{ oe with data:=.fields (vs.setIfInBounds 1 (Value.ref hA.objs.size)) },_,?_,rfl,rfl,rfl,.inr ⟨_,_,_,v1,stA.fresh,Nat.ne_of_gt lt,g5,rfl,?_⟩⟩⟩ up
 ·obtain ⟨sl,z⟩:=up b o g nf
  exact ⟨_,z,rfl⟩
 ·rw [Heap.get?_update_other _ _ (Nat.ne_of_gt lt)]
  exact g3
 ·rw [Array.getElem?_setIfInBounds_self_of_lt s3]
theorem noted {B:Heap} {env:Env} {l:List Env} {p e:Addr} {cls:Value} {dd:Option Addr} {Q:Unit→Shared→Prop} (fr:A.frames=some (env::l)) (pf:env.frame=some p) (F:Fly B (env::l) e cls dd s.heap)
  (k:∀ h',Fly B (env::l) e cls dd h'→s.heap.UpToSlots h'→Q () { s with heap:=h' }) : wpAny M A (noteFrame (.ref e) env) (fun _ t=>wpAny M A (setFlight (.ref e) none) Q E t) E s:=by
 obtain ⟨oe,vs,ge,rfl,rfl,de,tr⟩:=F.at_
 unfold noteFrame
 simp only [pf]
 rcases tr with v1 | ⟨T,oT,ts,v1,nT,neT,gT,dT,t3⟩
 ·refine Jf (wpAny_field ge de v1 ?_)
  rw [J0 (by decide)]
  exact kC fr F.frames pf ge F.stays F.new de (Array.getElem?_eq_some_iff.mp v1).1 k
 ·refine Jf (wpAny_field ge de v1 ?_)
  rw [J3 (show (Value.ref T != Value.none)=true from by simp)]
  refine Jf (wpAny_field gT dT t3 ?_)
  rw [J0 (show ¬ ((Value.none==rawInt p)=true) from by simp [rawInt])]
  refine Jf (wpAny_setField gT dT (Array.getElem?_eq_some_iff.mp t3).1 ?_)
  have oth:∀ b,b≠T→(s.heap.update T (Obj.mapFields (·.setIfInBounds 3 Value.none))).get? b=s.heap.get? b:=fun b n=>Heap.get?_update_other _ _ (Ne.symm n)
  have nrec:∀ b o,s.heap.get? b=some o→(∀ us,o.data≠.fields us)→b≠T:=fun b o g nf q=>by
   rw [q,gT] at g
   cases g
   exact nf ts dT
  refine kC (s:={ s with heap:=s.heap.update T (Obj.mapFields (·.setIfInBounds 3 Value.none)) }) fr (F.frames.of_keeps fun b o g nf=>⟨o,(oth b (nrec b o g nf)).trans g,rfl⟩) pf ((oth e (Ne.symm neT)).trans ge)
   (fun b o g=>(oth b fun q=>by rw [q,nT] at g;cases g).trans (F.stays b o g)) F.new de (Array.getElem?_eq_some_iff.mp v1).1 fun h' F' up=>k h' F' fun b o g nf=>up b o ((oth b (nrec b o g nf)).trans g) nf
theorem uy {B:Heap} {env:Env} {l:List Env} {p e:Addr} {cls:Value} {dd:Option Addr} {Q:Unit→Shared→Prop} (fr:A.frames=some (env::l)) (pf:env.frame=some p) (F:Fly B (env::l) e cls dd s.heap)
  (k:∀ h',Fly B l e cls dd h'→s.heap.UpToSlots h'→Q () { s with heap:=h' }) : wpAny M A (leaving env (.ref e)) Q E s:=by
 unfold leaving
 exact Jf (noted fr pf F fun h' F' up=>k h' F'.pop up)
theorem lands {B:Heap} {l:List Env} {e:Addr} {cls:Value} {dd:Option Addr} {Q:Unit→Shared→Prop} (F:Fly B l e cls dd s.heap) (k:∀ h',Fly B l e cls dd h'→s.heap.UpToSlots h'→Q () { s with heap:=h' }) :
  wpAny M A (setFlight (.ref e) none) Q E s:=by
 obtain ⟨oe,vs,ge,rfl,rfl,de,tr⟩:=F.at_
 unfold setFlight
 rcases tr with v1 | ⟨T,oT,ts,v1,nT,neT,gT,dT,t3⟩
 ·refine Jf (wpAny_field ge de v1 ?_)
  rw [J0 (by decide)]
  exact Y0 (k s.heap ⟨F.stays,F.new,F.frames,⟨oe,vs,ge,rfl,rfl,de,.inl v1⟩⟩ (.refl _))
 ·refine Jf (wpAny_field ge de v1 ?_)
  rw [J3 (show (Value.ref T != Value.none)=true from by simp)]
  have l3:=(Array.getElem?_eq_some_iff.mp t3).1
  refine wpAny_setField gT dT l3 ?_
  have e2:=gp dT (·.setIfInBounds 3 (Value.none))
  have oth:∀ b,b≠T→(s.heap.update T (Obj.mapFields (·.setIfInBounds 3 Value.none))).get? b=s.heap.get? b:=fun b n=>Heap.get?_update_other _ _ (Ne.symm n)
  have nrec:∀ b o,s.heap.get? b=some o→(∀ us,o.data≠.fields us)→b≠T:=fun b o g nf q=>by
   rw [q,gT] at g
   cases g
   exact nf ts dT
  have g5:(s.heap.update T (Obj.mapFields (·.setIfInBounds 3 Value.none))).get? T=some { oT with data:=.fields (ts.setIfInBounds 3 .none) }:=by
   rw [← e2]
   refine Heap.get?_update_self _ gT ?_
   rw [e2]
   rfl
  refine k _ ⟨fun b o g=>(oth b fun q=>by rw [q,nT] at g;cases g).trans (F.stays b o g),F.new,F.frames.of_keeps fun b o g nf=>⟨o,(oth b (nrec b o g nf)).trans g,rfl⟩,⟨oe,vs,(oth e (Ne.symm neT)).trans ge,rfl,rfl,de,.inr ⟨T,_,_,v1,nT,neT,g5,rfl,?_⟩⟩⟩ fun b o g nf=>⟨o.slots,(oth b (nrec b o g nf)).trans g⟩
  rw [Array.getElem?_setIfInBounds_self_of_lt l3]
end
end Kp
namespace Kp
open PySem L2
section
variable {M:Model} {prog:Program} {w:World} {A:Around} {E:Value→Shared→Prop} {h:Heap} {gg:Array GenState} {dr:Drawn} {tk:Nat} {os:OsState}
variable {cn cq:Str} {C N:Addr} {bs bm:List Value} {hdct:Bool} {sn:List Str} {sub:List Value} {ab:Bool} {col:Option Bool} {dd:Option Addr} {k0 k1 k2 k3 k5:Option Value} {B newId inId:String} {bmB:List Value}
theorem pK (F:ExcBaseFacts B newId inId bmB) (b1:bm.contains (.type B)=true) {Q:Unit→Shared→Prop} (gC:h.get? C=some (excClassObj cn cq C N bs bm hdct sn sub ab col dd k0 k1 k2 k3 k5 newId))
  (k:Q () ⟨h,gg,dr,tk,os⟩) : wpAny M A (checkBuiltinCall newId ⟨[.ref C],[]⟩) Q E ⟨h,gg,dr,tk,os⟩:=by
 have has:(Value.ref C::bm).contains (.type B)=true:=by rw [List.contains_cons,b1,Bool.or_true]
 have st:=F.noStar
 simp only [checkBuiltinCall,F.newKind,F.newSplit,F.newRow]
 repeat (first
  | refine wpAny_loadPart_at gC ?_
  | (refine wpAny_isSubtype_exc gC ?_;rw [has])
  | refine wpAny_staticBase_exc gC ?_
  | refine wpAny_madeBy_exc gC ?_
  | simp only [bne_self_eq_false,Bool.false_eq_true,if_false]
  | wp_step)
 exact k
theorem uz (F:ExcBaseFacts B newId inId bmB) (b1:bm.contains (.type B)=true) (b2:bm.contains (.type "AttributeError")=false) (b3:bm.contains (.type "NameError")=false) {R:Result→Shared→Prop}
  (gC:h.get? C=some (excClassObj cn cq C N bs bm hdct sn sub ab col dd k0 k1 k2 k3 k5 newId))
  (k:R (.ok (.ret (.ref (h.objs.size+1)))) ⟨(h.push { cls:=.type "tuple",data:=.seq #[] }).push { cls:=.ref C,data:=.fields #[.ref h.objs.size,.none,.none,.none,.bool false,.none] },gg,dr,tk,os⟩) :
  codeAny (model prog w) A (.builtin newId ⟨[.ref C],[]⟩) R ⟨h,gg,dr,tk,os⟩:=by
 have en:=F.ends
 have h1:(Value.ref C::bm).contains (.type B)=true:=by rw [List.contains_cons,b1,Bool.or_true]
 have h2:(Value.ref C::bm).contains (.type "AttributeError")=false:=by rw [List.contains_cons,b2];rfl
 have h3:(Value.ref C::bm).contains (.type "NameError")=false:=by rw [List.contains_cons,b3];rfl
 refine codeAny_builtinAt F.entry ?_
 unfold Builtin.«BaseException.__new__»
 refine wpAt_bind ?_
 show wpAt _ _ _ (stack >>= _) _ _ _
 refine wpAt_bind (wpAt_stack fun _ _=>wpAt_of_wpAny ?_)
 wp_walk
 refine wpAt_of_wpAny ?_
 rw [F.owner]
 repeat (first
  | with_reducible refine wpAny_madeHere_exc F.canon gC ?_
  | with_reducible refine wpAny_loadPart_at gC ?_
  | (with_reducible refine wpAny_isSubtype_exc gC ?_;first | rw [h1] | rw [h2] | rw [h3])
  | wp_step)
 show R _ _
 rw [Heap.size_push]
 exact k
theorem rE (F:ExcBaseFacts B newId inId bmB) (b1:bm.contains (.type B)=true) (b2:bm.contains (.type "AttributeError")=false) (b3:bm.contains (.type "NameError")=false) {fI:Addr} {oI:Obj} {Q:Fin→Shared→Prop}
  (gC:h.get? C=some (excClassObj cn cq C N bs bm hdct sn sub ab col dd k0 k1 k2 k3 k5 newId)) (gI:h.get? fI=some oI) (cI:oI.cls=.type "function")
  (lk:∀ (A:Around) (Q:Option Value→Shared→Prop) (E:Value→Shared→Prop) (s:Shared),(∀ b o,h.get? b=some o→s.heap.get? b=some o)→Q (some (.ref fI)) s→wpAny (model prog w) A (typeLookup (.ref C) "__init__") Q E s)
  (k:∀ h',(∀ b o,h.get? b=some o→h'.get? b=some o)→h'.get? (h.objs.size+1)=some { cls:=.ref C,data:=.fields #[.ref h.objs.size,.none,.none,.none,.bool false,.none] } →
   wpAny (model prog w) A (call (.ref fI) [.ref (h.objs.size+1)]) (fun r s'=>r=.none∧Q (.done (.ret (.ref (h.objs.size+1)))) s') E ⟨h',gg,dr,tk,os⟩) :
  wpAny (model prog w) A (Builtin.«type.__call__» ⟨[.ref C],[]⟩) Q E ⟨h,gg,dr,tk,os⟩:=by
 repeat (first
  | with_reducible refine wpAny_loadPart_at gC ?_
  | with_reducible refine wpAny_madeBy_exc gC ?_
  | wp_step)
 refine codeAny_call_builtin_code (Code.quiet_builtin _ F.quiet) (pK F b1 gC ?_)
 refine uz F b1 b2 b3 gC ?_
 show wpAny _ _ _ _ _ _
 have kp:∀ b o,h.get? b=some o→((h.push { cls:=.type "tuple",data:=.seq #[] }).push { cls:=.ref C,data:=.fields #[.ref h.objs.size,.none,.none,.none,.bool false,.none] }).get? b=some o :=
  fun b o g=>Jh _ (Jh _ g)
 have ge:((h.push { cls:=.type "tuple",data:=.seq #[] }).push { cls:=.ref C,data:=.fields #[.ref h.objs.size,.none,.none,.none,.bool false,.none] }).get? (h.objs.size+1)=some
   { cls:=.ref C,data:=.fields #[.ref h.objs.size,.none,.none,.none,.bool false,.none] }:=by heap_get
 have gC1:=kp _ _ gC
 have gI1:=kp _ _ gI
 have self:(Value.ref C::bm).contains (.ref C)=true:=by simp
 unfold isInstance
 repeat (first
  | with_reducible refine wpAny_loadPart_at ge ?_
  | (with_reducible refine wpAny_isSubtype_exc gC1 ?_;rw [self])
  | wp_step)
 show wpAny _ _ (typeLookup (.ref C) _) _ _ _
 refine lk _ _ _ _ kp ?_
 refine wpAny_holding (Jf ?_)
 unfold bindSpecial
 refine Jf (wpAny_typeOf (T:="function") ⟨_,gI1,cI⟩ ?_)
 rw [J3 (by decide)]
 refine Y0 (Jf (wpAny_mono (k _ kp ge) (fun r s' z=>?_) fun _ _ z=>z))
 obtain ⟨rfl,z⟩:=z
 wp_walk
 exact z
theorem rF (F:ExcBaseFacts B newId inId bmB) (b1:bm.contains (.type B)=true) (b2:bm.contains (.type "AttributeError")=false) (b3:bm.contains (.type "NameError")=false) {fI:Addr} {oI:Obj} {Q:Value→Shared→Prop}
  (gC:h.get? C=some (excClassObj cn cq C N bs bm hdct sn sub ab col dd k0 k1 k2 k3 k5 newId)) (gI:h.get? fI=some oI) (cI:oI.cls=.type "function")
  (lk:∀ (A:Around) (Q:Option Value→Shared→Prop) (E:Value→Shared→Prop) (s:Shared),(∀ b o,h.get? b=some o→s.heap.get? b=some o)→Q (some (.ref fI)) s→wpAny (model prog w) A (typeLookup (.ref C) "__init__") Q E s)
  (k:∀ h',(∀ b o,h.get? b=some o→h'.get? b=some o)→h'.get? (h.objs.size+1)=some { cls:=.ref C,data:=.fields #[.ref h.objs.size,.none,.none,.none,.bool false,.none] } →
   wpAny (model prog w) (A.under (.builtin "type.__call__" ⟨[.ref C],[]⟩)) (call (.ref fI) [.ref (h.objs.size+1)]) (fun r s'=>r=.none∧Q (.ref (h.objs.size+1)) s') E ⟨h',gg,dr,tk,os⟩) :
  wpAny (model prog w) A (call (.ref C) []) Q E ⟨h,gg,dr,tk,os⟩:=by
 have q1:=tc_lookup
 have q2:=tc_bind (.ref C)
 have ty:(⟨h,gg,dr,tk,os⟩ : Shared).TypeIs (.ref C) "type":=⟨_,gC,rfl⟩
 refine wpAny_call (codeAny_of_tree ?_)
 show wpAny _ _ (callAny (.ref C) _) _ _ _
 repeat (any_goals (first
  | assumption
  | with_reducible refine wpAny_loadPart_at gC ?_
  | wp_step))
 refine ⟨rfl,codeAny_call_builtin_at (Code.quiet_builtin _ (by decide +kernel)) entry_typeCall (wpAny_check_type_call_sub gC (rE F b1 b2 b3 gC gI cI lk fun h' kp ge=>?_))⟩
 exact k h' kp ge
theorem pL {s:Shared} {env:Env} {x:Sem Value} {Q:Flow→Shared→Prop} (b0:bm.contains (.type "BaseException")=true) (hh:A.handled=none)
  (k:wpAny M A x (fun v s₁=>∃ e t de,v=.ref e∧s₁.heap.get? C=some (excClassObj cn cq C N bs bm hdct sn sub ab col dd k0 k1 k2 k3 k5 newId) ∧
   s₁.heap.get? e=some { cls:=.ref C,dict:=de,data:=.fields #[.ref t,.none,.none,.none,.bool false,.none] }∧E (.ref e) s₁) E s) :
  wpAny M A (raiseStmt env (some x) none) Q E s:=by
 have has:(Value.ref C::bm).contains (.type "BaseException")=true:=by rw [List.contains_cons,b0,Bool.or_true]
 unfold raiseStmt
 refine Jf (wpAny_mono k (fun v s₁ z=>?_) fun _ _ z=>z)
 obtain ⟨e,t,de,rfl,gC,ge,z⟩:=z
 obtain ⟨h1,g1,d1,t1,o1⟩:=s₁
 repeat (first
  | with_reducible refine wpAny_loadPart_at ge ?_
  | with_reducible refine wpAny_loadPart_at gC ?_
  | (with_reducible refine wpAny_isSubtype_exc gC ?_;rw [has])
  | wp_step)
 exact wpAny_raiseNew_none hh z
theorem pM {e R:Addr} {oe:Obj} {Q:Bool→Shared→Prop} {rn rq:Str} {RN:Addr} {rbs rbm:List Value} {rh:Bool} {rsn:List Str} {rsub:List Value} {rab:Bool} {rcol:Option Bool} {rdd:Option Addr} {r0 r1 r2 r3 r5:Option Value} {rid:String}
  (gC:h.get? C=some (excClassObj cn cq C N bs bm hdct sn sub ab col dd k0 k1 k2 k3 k5 newId)) (gR:h.get? R=some (excClassObj rn rq R RN rbs rbm rh rsn rsub rab rcol rdd r0 r1 r2 r3 r5 rid)) (ge:h.get? e=some oe) (ce:oe.cls=.ref C)
  (b0:rbm.contains (.type "BaseException")=true) (b1:(Value.ref C::bm).contains (.ref R)=true) (k:Q true ⟨h,gg,dr,tk,os⟩) : wpAny M A (excMatches (.ref e) (.ref R)) Q E ⟨h,gg,dr,tk,os⟩:=by
 have has:(Value.ref R::rbm).contains (.type "BaseException")=true:=by rw [List.contains_cons,b0,Bool.or_true]
 have nt:=tc_notTuple
 unfold excMatches
 repeat (first
  | (with_reducible refine wpAny_loadPart_at ge ?_;rw [ce])
  | with_reducible refine wpAny_loadPart_at gR ?_
  | with_reducible refine wpAny_loadPart_at gC ?_
  | (with_reducible refine wpAny_isSubtype_exc gR ?_;rw [has])
  | (with_reducible refine wpAny_isSubtype_exc gC ?_;rw [b1])
  | wp_step)
 exact k
end
end Kp
namespace Kp
open PySem L2
open Builtin Builtin.ObjectAttr
def Lk (M:Model) (h:Heap) (C:Addr) (x:Str) (r:Option Value) : Prop :=
 ∀ (A:Around) (Q:Option Value→Shared→Prop) (E:Value→Shared→Prop) (s:Shared),(∀ b o,h.get? b=some o→s.heap.get? b=some o)→Q r s→wpAny M A (typeLookup (.ref C) x) Q E s
section
variable {prog:Program} {w:World} {A:Around} {E:Value→Shared→Prop} {h:Heap} {gg:Array GenState} {dr:Drawn} {tk:Nat} {os:OsState}
variable {cn cq:Str} {C N e:Addr} {bs bm:List Value} {sn:List Str} {sub:List Value} {ab:Bool} {col:Option Bool} {dd:Option Addr} {k0 k1 k2 k3 k5:Option Value} {B newId nid inId:String} {bmB:List Value} {oe:Obj} {vs:Array Value} {u:Value} {x:Str}
theorem Lk.at {M:Model} {r:Option Value} {Q:Option Value→Shared→Prop} (l:Lk M h C x r) (k:Q r ⟨h,gg,dr,tk,os⟩) : wpAny M A (typeLookup (.ref C) x) Q E ⟨h,gg,dr,tk,os⟩:=l A Q E _ (fun _ _ z=>z) k
theorem rG (F:ExcBaseFacts B nid inId bmB) (b1:bm.contains (.type B)=true) {hdct:Bool} {R:Result→Shared→Prop} (gC:h.get? C=some (excClassObj cn cq C N bs bm hdct sn sub ab col dd k0 k1 k2 k3 k5 newId))
  (ge:h.get? e=some oe) (ce:oe.cls=.ref C) (de:oe.data=.fields vs) {t0:Addr} (v0:vs[0]? = some (.ref t0))
  (k:R (.ok (.ret .none)) ⟨(h.push { cls:=.type "tuple",data:=.seq #[u] }).update e (Obj.mapFields (·.setIfInBounds 0 (.ref h.objs.size))),gg,dr,tk,os⟩) :
  codeAny (model prog w) A (.call (.builtin inId) ⟨[.ref e,u],[]⟩) R ⟨h,gg,dr,tk,os⟩:=by
 have has:(Value.ref C::bm).contains (.type B)=true:=by rw [List.contains_cons,b1,Bool.or_true]
 have st:=F.noStar
 refine codeAny_call_builtin F.init.plain F.initEntry ?_
 simp only [checkBuiltinCall,F.initKind,F.initSplit,F.initRow]
 repeat (first
  | (with_reducible refine wpAny_loadPart_at ge ?_;rw [ce])
  | with_reducible refine wpAny_loadPart_at gC ?_
  | (with_reducible refine wpAny_isSubtype_exc gC ?_;rw [has])
  | wp_step)
 have gP:=Jh (h:=h) { cls:=.type "tuple",data:=.seq #[u] } ge
 rw [de]
 refine Y0 ?_
 rw [v0]
 refine Y0 (Jf (wpAny_setField gP de (Array.getElem?_eq_some_iff.mp v0).1 ?_))
 repeat wp_step
 exact k
theorem kD {M:Model} {id own nm:String} {as:List Value} {hdct:Bool} {Q:Unit→Shared→Prop} (gC:h.get? C=some (excClassObj cn cq C N bs bm hdct sn sub ab col dd k0 k1 k2 k3 k5 newId)) (ge:h.get? e=some oe) (ce:oe.cls=.ref C)
  (kd:builtinKind id=some .slot) (sp:splitId id=some (own,nm)) (has:(Value.ref C::bm).contains (.type own)=true) (ha:argsOk id ⟨.ref e::as,[]⟩) (k:Q () ⟨h,gg,dr,tk,os⟩) :
  wpAny M A (checkBuiltinCall id ⟨.ref e::as,[]⟩) Q E ⟨h,gg,dr,tk,os⟩:=by
 simp only [checkBuiltinCall,kd,sp]
 refine Jf ?_
 unfold isInstance
 repeat (first
  | (with_reducible refine wpAny_loadPart_at ge ?_;rw [ce])
  | (with_reducible refine wpAny_isSubtype_exc gC ?_;rw [has])
  | wp_step)
 cases hs:Manifest.signature? id with
 | none=>exact Y0 k
 | some sig =>
  simp only [argsOk,hs] at ha
  show wpAny _ _ (Bind.checkArgs id sig ⟨.ref e::as,[]⟩) _ _ _
  rw [show Bind.checkArgs id sig ⟨.ref e::as,[]⟩=pure () from ha]
  exact Y0 k
theorem pN (gC:h.get? C=some (excClassObj cn cq C N bs bm true sn sub ab col dd k0 k1 k2 k3 k5 newId)) (ge:h.get? e=some oe) (ce:oe.cls=.ref C) (de:oe.data=.fields vs) (nd:oe.dict=none)
  (ls:Lk (model prog w) h C "__setattr__" (some (.builtin "object.__setattr__"))) (lx:Lk (model prog w) h C x none) (b1:bm.contains (.type "object")=true) (rf:refuseLoop (.ref e) "__setattr__" (.ref C::bm)=pure ()) {Q:Unit→Shared→Prop}
  (k:∀ h' tk',h'.get? e=some { oe with dict:=some h.objs.size }→h'.Ns1 h.objs.size (fun y=>if y=x then some u else none)→(∀ b o,b≠e→h.get? b=some o→h'.get? b=some o)→Q () ⟨h',gg,dr,tk',os⟩) :
  wpAny (model prog w) A (setAttr (.ref e) x u) Q E ⟨h,gg,dr,tk,os⟩:=by
 have SF:=F.store_object
 have f3:=SF.slot.bind (.ref e)
 have has:(Value.ref C::bm).contains (.type "object")=true:=by rw [List.contains_cons,b1,Bool.or_true]
 unfold setAttr callSpecial? specialOf
 repeat (any_goals (first
  | assumption
  | (with_reducible refine wpAny_loadPart_at ge ?_;rw [ce])
  | with_reducible refine ls.at ?_
  | wp_step))
 refine codeAny_call_builtin SF.slot.plain SF.entry ?_
 rw [show ([Value.ref e]++[Value.str x tk,u])=[.ref e,.str x tk,u] from rfl]
 refine kD (id:="object.__setattr__") (own:="object") (nm:="__setattr__") (as:=[.str x tk,u]) gC ge ce SF.kind SF.split has (SF.args (.ref e) (.str x tk) u) ?_
 unfold Builtin.«object.__setattr__»
 repeat (first
  | rw [refuse_eq]
  | rw [rf]
  | (with_reducible refine wpAny_loadPart_at ge ?_;rw [ce])
  | with_reducible refine wpAny_mroOf_exc gC ?_
  | with_reducible refine lx.at ?_
  | wp_step)
 rw [nd,J0 (by simp [typeHasDict]),de]
 have gP:(h.push { cls:=.type "dict",data:=.dict #[] }).get? e=some oe:=Jh _ ge
 have ne:e≠h.objs.size:=Nat.ne_of_lt (Jv ge)
 refine Jf (wpAny_alloc' ?_)
 refine Jf (wpAny_update' gP ?_)
 refine Y0 ?_
 have ge2:((h.push { cls:=.type "dict",data:=.dict #[] }).update e fun o=>{ cls:=o.cls,dict:=some h.objs.size,data:=o.data,slots:=o.slots }).get? e=some { oe with dict:=some h.objs.size }:=by
  refine Heap.get?_update_self _ gP ?_
  show Obj.isFreed { cls:=oe.cls,dict:=some h.objs.size,data:=oe.data,slots:=oe.slots }=false
  rw [de]
  rfl
 have gd:((h.push { cls:=.type "dict",data:=.dict #[] }).update e fun o=>{ cls:=o.cls,dict:=some h.objs.size,data:=o.data,slots:=o.slots }).get? h.objs.size=some { cls:=.type "dict",data:=.dict #[] } :=
  (Heap.get?_update_ne _ _ _ _ ne.symm).trans (Heap.get?_push_at rfl rfl)
 have kp:∀ b o,b≠e→h.get? b=some o→((h.push { cls:=.type "dict",data:=.dict #[] }).update e fun o=>{ cls:=o.cls,dict:=some h.objs.size,data:=o.data,slots:=o.slots }).get? b=some o:=fun b o nb g =>
  (Heap.get?_update_ne _ _ _ _ nb).trans (Jh _ g)
 generalize ((h.push { cls:=.type "dict",data:=.dict #[] }).update e fun o=>{ cls:=o.cls,dict:=some h.objs.size,data:=o.data,slots:=o.slots })=h2 at ge2 gd kp ⊢
 have hn:h2.Ns h.objs.size (fun _=>none):=⟨_,#[],_,gd,rfl,fun y hy=>absurd hy (by simp),fun _=>rfl⟩
 show wpAny _ _ (storeInDict h.objs.size (.str x tk) x u) _ _ _
 unfold storeInDict newKeyGuard
 refine Jf (Y0 (Jf (wpAny_nsSet1 (Heap.Ns1.of_empty hn) fun h3 n3 s3=>?_)))
 obtain ⟨oD,eD,pD,gD,dD,cD⟩:=n3.count (Within.cons x u Within.nil)
 refine Jf (wpAny_lookBehind gD (by rw [dD];exact pastItsLine_dict (Ju cD (by rw [Jy,List.length_nil,sizeLine_eq];omega))) ?_)
 wp_walk
 exact k h3 _ ((s3.2 e ne).trans ge2) n3 fun b o nb g=>(s3.2 b (Nat.ne_of_lt (Jv g))).trans (kp b o nb g)
theorem rH (gC:h.get? C=some (excClassObj cn cq C N bs bm true sn sub ab col dd k0 k1 k2 k3 k5 newId)) (ge:h.get? e=some oe) (ce:oe.cls=.ref C) (de:oe.data=.fields vs) {dx:Addr} {mA:Str→Option Value} (hd:oe.dict=some dx) (hn:h.Ns1 dx mA) (hv:mA x=some u) (hh:handedOut u=pure u)
  (lg:Lk (model prog w) h C "__getattribute__" (some (.builtin "BaseException.__getattribute__"))) (lh:Lk (model prog w) h C "__getattr__" none) (lx:Lk (model prog w) h C x none) (b1:bm.contains (.type "BaseException")=true) {expr:Bool} {Q:Value→Shared→Prop}
  (k:Q u ⟨h,gg,dr,tk+1,os⟩) : wpAny (model prog w) A (getAttr (.ref e) x expr) Q E ⟨h,gg,dr,tk,os⟩:=by
 have f3:=F.attr_Exception.ga.bind (.ref e)
 have has:(Value.ref C::bm).contains (.type "BaseException")=true:=by rw [List.contains_cons,b1,Bool.or_true]
 have y0:(expr && onTheHeap (Value.builtin "BaseException.__getattribute__"))=false:=by cases expr <;> rfl
 have y2:(Value.builtin "BaseException.__getattribute__" == Value.builtin "object.__getattribute__")=false:=by decide +kernel
 have y1:(onTheHeap (Value.ref C) && Value.builtin "BaseException.__getattribute__" == Value.builtin "object.__getattribute__")=false:=by rw [y2];rfl
 unfold getAttr
 repeat (any_goals (first
  | assumption
  | (with_reducible refine wpAny_loadPart_at ge ?_;rw [ce])
  | with_reducible refine lg.at ?_
  | with_reducible refine lh.at ?_
  | wp_step))
 have kd:builtinKind "BaseException.__getattribute__" = some .slot:=by decide +kernel
 have sp:splitId "BaseException.__getattribute__" = some ("BaseException","__getattribute__"):=by decide +kernel
 rw [show ([Value.ref e]++[Value.str x tk])=[.ref e,.str x tk] from rfl]
 refine codeAny_call_builtin F.attr_Exception.ga.plain F.entry_bexc_ga ?_
 refine kD (id:="BaseException.__getattribute__") (own:="BaseException") (nm:="__getattribute__") (as:=[.str x tk]) gC ge ce kd sp has (F.args_bexc_ga (.ref e) (.str x tk)) ?_
 unfold Builtin.«object.__getattribute__»
 repeat (first
  | (with_reducible refine wpAny_loadPart_at ge ?_;rw [ce])
  | with_reducible refine lx.at ?_
  | wp_step)
 rw [de]
 show wpAny _ _ (instanceDict e false) _ _ _
 unfold instanceDict
 repeat (first
  | (with_reducible refine wpAny_loadPart_at ge ?_;rw [ce])
  | with_reducible refine wpAny_loadPart_at gC ?_
  | wp_step)
 rw [hd]
 repeat (first
  | (with_reducible refine wpAny_nsGet hn.ns ?_;rw [hv])
  | wp_step)
 exact k
end
end Kp
namespace Kp
open PySem PySem.Spec PyProof.Rows L2
def XO (a C:Addr) (dd:Option Addr) : HO:=.ext fun h=>∃ t:Addr,h.get? a=some { cls:=.ref C,dict:=dd,data:=.fields #[.ref t,.none,.none,.none,.bool false,.none] }
theorem rJ {P:Program} {w:World} {H:Hp} {h:Heap} {a C t:Addr} {dd:Option Addr} (e:h.get? a=some { cls:=.ref C,dict:=dd,data:=.fields #[.ref t,.none,.none,.none,.bool false,.none] }) : wD P w H h a (XO a C dd) :=
 ⟨⟨t,e⟩,⟨_,e⟩,fun _ _ ⟨t,q⟩ k=>⟨t,k _ q⟩⟩
theorem vz {H:Hp} {a:Addr} {o:HO} (h:H a=some o) : upd H a o=H:=by
 funext b
 unfold upd
 by_cases e:b=a
 ·rw [J3 e,e,h]
 ·rw [J0 e]
def bmR:List Value:=[.type "Exception",.type "BaseException",.type "object"]
structure xC (K:Ay) (R C:Addr) : Prop where
 ob:∃ (cn cq:Str) (N:Addr) (bs:List Value) (sn:List Str) (sub:List Value) (ab:Bool) (col:Option Bool) (dd:Option Addr) (k0 k1 k2 k3 k5:Option Value),
  K.lookup C=some (excClassObj cn cq C N bs (.ref R::bmR) true sn sub ab col dd k0 k1 k2 k3 k5 "Exception.__new__")
 sa:PySem.W.findIn K (.ref C) "__setattr__" = some (some (.builtin "object.__setattr__"))
 ga:PySem.W.findIn K (.ref C) "__getattribute__" = some (some (.builtin "BaseException.__getattribute__"))
 gh:PySem.W.findIn K (.ref C) "__getattr__" = some none
 no:PySem.W.findIn K (.ref C) "text" = some none
def ErrR (K:Ay) (R:Addr) : Prop:=∃ (cn cq:Str) (N:Addr) (bs:List Value) (hdct:Bool) (sn:List Str) (sub:List Value) (ab:Bool) (col:Option Bool) (dd:Option Addr) (k0 k1 k2 k3 k5:Option Value) (newId:String),
 K.lookup R=some (excClassObj cn cq R N bs bmR hdct sn sub ab col dd k0 k1 k2 k3 k5 newId)
theorem kE {K:Ay} {M:Model} {h:Heap} {C:Addr} {x:Str} {r:Option Value} (X:K.In h) (e:PySem.W.findIn K (.ref C) x=some r) : Lk M h C x r:=fun A Q E s k q=>PySem.W.looks_findIn X e A Q E s k q
theorem u6 (R:Addr) : (Value.ref R::bmR).contains (.type "Exception")=true:=rfl
theorem rK (R:Addr) : (Value.ref R::bmR).contains (.type "BaseException")=true:=rfl
theorem c_obj (R:Addr) : (Value.ref R::bmR).contains (.type "object")=true:=rfl
theorem vA (R:Addr) : (Value.ref R::bmR).contains (.type "AttributeError")=false:=rfl
theorem vB (R:Addr) : (Value.ref R::bmR).contains (.type "NameError")=false:=rfl
theorem vC (C R:Addr) : (Value.ref C::Value.ref R::bmR).contains (.ref R)=true:=by simp
theorem nC (e C R:Addr) : refuseLoop (.ref e) "__setattr__" (.ref C::.ref R::bmR)=pure ():=by
 rw [refuseLoop_ref,refuseLoop_ref]
 exact PySem.F.store_Exception.passes (.ref e)
def CXX (P:Program) (w:World) (K:Ay) (R:Addr) : CXT:=fun outer H s E e s'=>∃ (a C dx:Addr) (H':Hp) (B:Heap) (W:Addr→Prop),e=.ref a∧s'.os=s.os∧AllBare s'.gens∧Un (frs outer) [] H H' s.heap s'.heap∧HOk P w H' s'.heap ∧
 Fly B outer a (.ref C) (some dx) s'.heap∧(∀ b,W b→s.heap.get? b=none∧H' b=none)∧(∀ b o,s'.heap.get? b=some o→b∉frs outer→¬ W b→B.get? b=some o)∧xC K R C∧E (.ref C) (some dx) H'
theorem mB {P:Program} {w:World} {H:Hp} {h:Heap} {a:Addr} {o:HO} (x:wD P w H h a o) : ∃ ob,h.get? a=some ob:=by
 cases o with
 | lst xs=>obtain ⟨_,_,_,_,e⟩:=x;exact ⟨_,e⟩
 | tup xs=>obtain ⟨_,_,_,ob,e,_⟩:=x;exact ⟨_,e⟩
 | dK kvs=>obtain ⟨_,_,_,_,o,_,_,e,_⟩:=x;exact ⟨_,e⟩
 | dT kvs=>obtain ⟨_,_,_,_,o,_,_,e,_⟩:=x;exact ⟨_,e⟩
 | set S n=>obtain ⟨o,_,_,_,e,_⟩:=x;exact ⟨_,e⟩
 | ins C dx fs=>obtain ⟨_,_,_,e,_⟩:=x;exact ⟨_,e⟩
 | own y=>exact x
 | xd fs=>obtain ⟨_,⟨_,_,_,e,_⟩,_⟩:=x;exact ⟨_,e⟩
 | rng lo hi=>obtain ⟨_,_,_,e⟩:=x;exact ⟨_,e⟩
 | frz ob u=>obtain ⟨e,_⟩:=x;exact ⟨_,e⟩
 | tbl ps=>exact ⟨_,x⟩
 | met f y=>exact ⟨_,x⟩
 | ext φ=>obtain ⟨_,e,_⟩:=x;exact e
section
variable {P:Program} {w:World} {K:Ay} {mg:Str→Option Value} {base:Heap}
theorem wC {R:Addr} {N:List Str} {qual:Str} {scope:Scope} {f:Addr} {cd:Value} {A:Around} {outer:List Env} {s:Shared} {H:Hp} {E:XK} :
  Passes (CXX P w K R) (zA (CXX P w K R) P w K mg base N qual scope f cd A outer s H E) E:=by
 rintro pins σ H1 s1 e s' I ⟨a,C,dx,H',B,W,rfl,os,bare,un,hok,fly,hW,hB,hE,hq⟩
 have neL:∀ b o,s.heap.get? b=some o→b≠s.heap.objs.size:=fun b o g=>Nat.ne_of_lt (Jv g)
 have I0:Un (frs outer) [] H H1 s.heap s1.heap:=I.base
 have stk:frs (envOfC qual scope s.heap.objs.size f cd::outer)=s.heap.objs.size::frs outer:=rfl
 have un:Un (s.heap.objs.size::frs outer) [] H1 H' s1.heap s'.heap:=un
 have hB:∀ b o,s'.heap.get? b=some o→b∉s.heap.objs.size::frs outer→¬ W b→B.get? b=some o:=hB
 have out:∀ b o,s.heap.get? b=some o→b∉frs outer→b∉s.heap.objs.size::frs outer:=fun b o g n m=>(List.mem_cons.mp m).elim (neL b o g) n
 have old:∀ b o,s.heap.get? b=some o→¬ W b:=fun b o g z=>by
  obtain ⟨o1,g1⟩:=I0.there b o g (by simp)
  rw [(hW b z).1] at g1
  cases g1
 have L1:∃ o,s1.heap.get? s.heap.objs.size=some o:=let ⟨m,hn,_⟩:=I.loc;let ⟨o,_,_,g,_⟩:=hn;⟨o,g⟩
 have frH:∀ b∈s.heap.objs.size::frs outer,H' b=none:=fun b hb=>by
  have h1:H1 b=none:=I.yr b hb
  rcases List.mem_cons.mp hb with z | z
  ·obtain ⟨o,g⟩:=L1
   rw [z] at h1 ⊢
   exact un.free _ o g h1 (by simp)
  ·obtain ⟨_,o,g,_⟩:=I.ok.funs.mem z
   obtain ⟨o1,g1⟩:=I0.there b o g (by simp)
   exact un.free b o1 g1 h1 (by simp)
 have kept:∀ h',Fly B outer a (.ref C) (some dx) h'→∀ b u o,H' b=some u→s'.heap.get? b=some o→h'.get? b=some o:=fun h' F b u o hb g =>
  F.stays b o (hB b o g (fun m=>by rw [frH b m] at hb;cases hb) fun z=>by rw [(hW b z).2] at hb;cases hb)
 show wpAny _ _ (leaving _ _) _ _ s'
 refine uy (p:=s.heap.objs.size) I.ok.frames rfl fly fun h' F' up=>?_
 refine ⟨a,C,dx,H',B,fun b=>W b∨b=s.heap.objs.size∨s'.heap.get? b=none,rfl,os.trans I.os,bare,⟨fun b o g n nf _=>?_,fun b o g n mf _=>?_,fun b o g n _=>?_,fun b o g _=>?_,fun b xs g=>un.tups b xs (I0.tups b xs g),fun b o u g=>un.frzs b o u (I0.frzs b o u g),fun b ps g=>?_⟩,fun b u g=>?_,F',fun b z=>?_,fun b o g nf nw=>?_,hE,hq⟩
 ·have g1:=I0.keep b o g n nf (by simp)
  have g2:=un.keep b o g1 (I0.free b o g n (by simp)) (out b o g nf) (by simp)
  exact F'.stays b o (hB b o g2 (out b o g nf) (old b o g))
 ·obtain ⟨sl,g1⟩:=I0.slot b o g n mf (by simp)
  obtain ⟨sl2,g2⟩:=un.slot b _ g1 (I0.free b o g n (by simp)) (Jd _ mf) (by simp)
  obtain ⟨_,of,gf,nf⟩:=I.ok.funs.mem mf
  have ef:of=o:=by
   have gf':s.heap.get? b=some of:=gf
   rw [g] at gf'
   exact (Option.some.inj gf').symm
  obtain ⟨sl3,g3⟩:=up b _ g2 fun us q=>nf us (by rw [ef];exact q)
  exact ⟨sl3,g3⟩
 ·obtain ⟨o1,g1⟩:=I0.there b o g (by simp)
  exact un.free b o1 g1 (I0.free b o g n (by simp)) (by simp)
 ·obtain ⟨o1,g1⟩:=I0.there b o g (by simp)
  obtain ⟨o2,g2⟩:=un.there b o1 g1 (by simp)
  by_cases mf:b∈frs outer
  ·obtain ⟨_,of,gf,nf⟩:=fly.frames.2.2.mem mf
   obtain ⟨sl3,g3⟩:=up b _ gf nf
   exact ⟨_,g3⟩
  ·exact ⟨o2,F'.stays b o2 (hB b o2 g2 (out b o g mf) (old b o g))⟩
 ·obtain ⟨m1,e1⟩:=I0.tbls b ps g
  obtain ⟨m2,e2⟩:=un.tbls b _ e1
  exact ⟨m1++m2,by rw [e2,Array.append_assoc]⟩
 ·refine (hok b u g).stay (fun c v hc q=>?_) (fun _ q=>q) fun _ _ q=>q
  rcases hc with rfl | hc
  ·exact kept h' F' c u v g q
  ·exact kept h' F' c _ v hc q
 ·rcases z with z | z | z
  ·refine ⟨?_,(hW b z).2⟩
   cases g:s.heap.get? b with
   | none=>rfl
   | some o=>exact absurd z (old b o g)
  ·rw [z]
   exact ⟨Heap.get?_none_of_le (Jm _),frH _ Jb⟩
  ·constructor
   ·cases g:s.heap.get? b with
    | none=>rfl
    | some o =>
     obtain ⟨o1,g1⟩:=I0.there b o g (by simp)
     obtain ⟨o2,g2⟩:=un.there b o1 g1 (by simp)
     rw [z] at g2
     cases g2
   ·cases g:H' b with
    | none=>rfl
    | some u =>
     obtain ⟨ob,g2⟩:=mB (hok b u g)
     rw [z] at g2
     cases g2
 ·cases g2:s'.heap.get? b with
  | none=>exact absurd (.inr (.inr g2)) nw
  | some o2 =>
   have hb:=hB b o2 g2 (fun m=>(List.mem_cons.mp m).elim (fun z=>nw (.inr (.inl z))) nf) fun z=>nw (.inl z)
   have:=F'.stays b o2 hb
   rw [g] at this
   cases this
   exact hb
theorem okX {R:Addr} {x qual:Str} {st:Stmt} {f:Addr} {fd:FuncData} {N ps:List Str} {k:Nat} {sp:Sp} (F:Fun K x qual st f fd) (S:wb N ps (vZ st)) (len:∀ vs H Q E,sp vs H Q E→vs.length=ps.length)
  (body:∀ (cdv:Value) (A:Around) (outer:List Env) (s:Shared) (H:Hp) (vs:List V) (Q:VK) (E:XK),wK k (A.deeper (envOfC qual (vZ st) s.heap.objs.size f cdv))→sp vs H Q E →
   ∃ t,PSs (zA (CXX P w K R) P w K mg base N qual (vZ st) f cdv A outer s H E) (wR st) t∧t { nx:=fun _ H'=>Q .non H',rt:=Q } (start N vs) H) : we P w K mg base (CXX P w K R) (k+1) f fd ps sp:=by
 obtain ⟨oc,od,kV,doc,pm,an,cdv,ct,osl,rfl,lk,hcd⟩:=F.ex
 exact uW lk hcd S len fun A outer s H vs Q E hr hsp=>body cdv A outer s H vs Q E hr hsp
end
def yE (H:Hp) (t:Str) (E:XK) : Prop:=∀ (cls:Value) (dx:Addr) (H':Hp),wm H H'→H dx=none→H' dx=some (.xd [("text",.str t)])→E cls (some dx) H'
def tRaise (t:Str) (E:XK) : TS:=fun _ _ H=>yE H t E
def xt (C:Addr) (t:Str) : Sp:=fun vs H Q _=>∃ a:Addr,vs=[.ref a]∧H a=some (XO a C none)∧∀ dx,H dx=none→Q .non (upd (upd H dx (.xd [("text",.str t)])) a (XO a C (some dx)))
theorem rL {X:Cx} {R C fI:Addr} {fd:FuncData} {k:Nat} {t x:Str} {p cp pos:Pos} {E:XK} (ec:xC X.K R C) (G:we X.prog X.w X.K X.mg X.base CX0 k fI fd ["self"] (xt C t)) (hr:wK (k+1) X.A) (hc:X.calm=true) (hg:Gl X x) (hm:X.mg x=some (.ref C))
  (hi:PySem.W.findIn X.K (.ref C) "__init__" = some (some (.ref fI))) (hf:∃ oI,X.K.lookup fI=some oI∧oI.cls=.type "function") (kp:PySem.W.keepIn X.K (.ref C)=true) (hb:Binds X.K fd ["self"] []) (hx:Passes (CXX X.prog X.w X.K R) X E)
  (hdb:(x==("__debug__" : Str))=false:=by decide) : PS X (.Raise (some (.Call (.Name x p) [] [] cp)) none pos) (tRaise t E):=by
 intro pins s σ H D I h
 obtain ⟨cn,cq,N,bs,sn,sub,ab,col,dd,k0,k1,k2,k3,k5,gK⟩:=ec.ob
 obtain ⟨oI,gI,cI⟩:=hf
 rw [arm_exec_Raise]
 refine Jf (wpAny_standAt ?_)
 simp only [evalOpt,Option.map]
 refine pL (C:=C) (cn:=cn) (cq:=cq) (N:=N) (bs:=bs) (bm:=.ref R::bmR) (hdct:=true) (sn:=sn) (sub:=sub) (ab:=ab) (col:=col) (dd:=dd) (k0:=k0) (k1:=k1) (k2:=k2) (k3:=k3) (k5:=k5) (newId:="Exception.__new__") (rK R) (I.ok.hd hc) ?_
 refine Jf (wpAny_mono ?_ (fun v s₃ z=>Jf (wpAny_standAt (Y0 z))) fun _ _ z=>z)
 refine wpAny_Call_Name_kw (fQ I hg hm ?_ hdb)
 refine PySem.W.callWith_K0 I.kIn kp ?_
 obtain ⟨hh,gg,dr,tk,os⟩:=s
 have nw:hh.get? (hh.objs.size+1)=none:=Heap.get?_none_of_le (Nat.le_succ _)
 refine rF PySem.F.excBase_Exception (u6 R) (vA R) (vB R) (I.kIn _ _ gK) (I.kIn _ _ gI) cI (kE I.kIn hi) fun h1 kp1 ge=>?_
 have hn:H (hh.objs.size+1)=none:=I.hok.fresh (Nat.le_succ _)
 have I1:=I.laid (a:=hh.objs.size+1) (o:=XO (hh.objs.size+1) C none) (t':=tk) kp1 (Nat.le_succ _) (rJ ge)
 have un1:Un (frs X.stack) [] H (upd H (hh.objs.size+1) (XO (hh.objs.size+1) C none)) hh h1:=Un.laid kp1 (Nat.le_succ _) hn
 refine wpAny_call (codeAny_mono (G.run _ X.stack ⟨h1,gg,dr,tk,os⟩ _ ⟨[.ref (hh.objs.size+1)],[]⟩ [.ref (hh.objs.size+1)] [.ref (hh.objs.size+1)] (fun v H2=>v=.non∧∃ dx,(upd H (hh.objs.size+1) (XO (hh.objs.size+1) C none)) dx=none∧H2=upd (upd (upd H (hh.objs.size+1) (XO (hh.objs.size+1) C none)) dx (.xd [("text",.str t)])) (hh.objs.size+1) (XO (hh.objs.size+1) C (some dx))) E0
  (hr.make C [] []) (I1.env0.make C [] []) (hb _ [.ref (hh.objs.size+1)] I1.kIn rfl) (.cons rfl .nil) ⟨_,rfl,af,fun dx hdx=>⟨rfl,dx,hdx,rfl⟩⟩) fun r s' hq=>?_)
 cases r with
 | error e=>exact False.elim hq
 | ok fl =>
  cases fl with
  | next=>exact False.elim hq
  | brk=>exact False.elim hq
  | cont=>exact False.elim hq
  | ret u =>
   obtain ⟨v,H2,os2,bare,un,hok,rv,rfl,dx,hdx,rfl⟩:=hq
   have J:=I1.after (Q:=fun _ _=>True) ⟨V.non,_,os2,bare,un,hok,rv,trivial⟩
   refine ⟨rv,?_⟩
   have dne:dx≠hh.objs.size+1:=fun z=>by rw [z,af] at hdx;cases hdx
   have hdx0:H dx=none:=by rw [ao dne] at hdx;exact hdx
   have e2:=hok (hh.objs.size+1) _ af
   obtain ⟨⟨t2,ge2⟩,_⟩:=e2
   obtain ⟨_,_,J,_,_⟩:=J
   refine ⟨_,t2,_,rfl,J.kIn _ _ gK,ge2,?_⟩
   generalize ea:hh.objs.size+1=a at *
   have same:∀ b u,H b=some u→b≠a∧b≠dx:=fun b u g=>⟨(fun z=>by rw [z,hn] at g;cases g),(fun z=>by rw [z,hdx0] at g;cases g)⟩
   let Hx:Hp:=fun b=>if b=a then none else upd (upd (upd H a (XO a C none)) dx (.xd [("text",.str t)])) a (XO a C (some dx)) b
   have hx1:∀ b,b≠a→Hx b=upd (upd (upd H a (XO a C none)) dx (.xd [("text",.str t)])) a (XO a C (some dx)) b:=fun b n=>J0 n
   have hx2:∀ b u,H b=some u→Hx b=some u:=fun b u g=>by
    obtain ⟨n1,n2⟩:=same b u g
    rw [hx1 b n1,ao n1,ao n2,ao n1]
    exact g
   have un2:=un1.trans un
   refine hx pins σ H ⟨hh,gg,dr,tk,os⟩ (.ref a) s' I ⟨a,C,dx,Hx,PySem.W.hideAll s'.heap (a::frs X.stack),fun b=>b=a,rfl,os2,bare,⟨un2.keep,un2.slot,fun b o g n z=>?_,un2.there,fun b xs g=>hx2 b _ g,fun b o u g=>hx2 b _ g,fun b ps g=>⟨#[],by rw [hx2 b _ g];simp⟩⟩,fun b u g=>?_,
    ⟨fun b o g=>PySem.W.of_hideAll _ g,PySem.W.hideAll_none _ Jb,PySem.W.funFrames_hide J.stack fun env m c g=>Jd _ (List.mem_filterMap.mpr ⟨env,m,g⟩),⟨_,_,ge2,rfl,rfl,rfl,.inl rfl⟩⟩,fun b z=>?_,fun b o g nf nw=>PySem.W.hideAll_get _ g fun m=>(List.mem_cons.mp m).elim nw nf,ec,?_⟩
   ·by_cases z2:b=a
    ·exact J3 z2
    ·rw [hx1 b z2]
     exact un2.free b o g n z
   ·have nb:b≠a:=fun z=>by rw [show Hx b=none from J3 z] at g;cases g
    rw [hx1 b nb] at g
    refine (hok b u g).stay (fun _ _ _ q=>q) (fun c q=>?_) fun c xs q=>?_
    ·rw [hx1 c fun z=>by rw [z,af] at q;cases q];exact q
    ·rw [hx1 c fun z=>by rw [z,af] at q;cases q];exact q
   ·have z:b=a:=z
    subst z
    exact ⟨nw,J3 rfl⟩
   ·refine h (.ref C) dx Hx hx2 hdx0 ?_
    rw [hx1 dx dne,ao dne,af]
end Kp
namespace Kp
open PySem PySem.Spec PyProof.Rows L2
section
variable {X:Cx} {CX:CXT} {k:Nat} {f C:Addr} {fd:FuncData} {ps:List Str} {sp:Sp} {dvs:List V} {ds:List Value} {E:XK} {x m:Str} {p pos apos:Pos} {e:Expr} {es:List Expr} {t:TA}
theorem dP {pl:Sem Bool} (hg:Gl X x) (hm:X.mg x=some (.ref C)) (rd:PySem.W.readsIn X.K C (.type "type")=true) (fc:PySem.W.findCls X.K (.ref C) (.type "type") m=some (.val (.ref f))) (sg:PySem.W.specialIn X.K (.ref C) "__getattribute__" = some (some (.builtin "type.__getattribute__")))
  (F:we X.prog X.w X.K X.mg X.base CX k f fd ps sp) (hr:wK k X.A) (hk:PySem.W.keepIn X.K (.ref f)=true) (hb:Binds X.K fd ps ds) (hd:Vals dvs ds) (hx:Passes CX X E) (ha:PA X (e::es) t) (hdb:(x==("__debug__" : Str))=false:=by decide)
  (hst:starEach (e::es) X.env=(false,eval e X.env)::starEach es X.env:=by rfl) (hpl:(backTo pos (starEach es X.env)).any (·.1)=false:=by rfl)
  (ht:eval (.Call (.Attribute (.Name x p) m apos) (e::es) [] pos) X.env=(do
   let ov ← eval (.Name x p) X.env
   standAt apos.atName
   let (f,first) ← holding [ov] (getMethod ov m pl)
   callWith pos f first (backTo pos (starEach (e::es) X.env)) (backToKw pos (keywordEach [] X.env))):=by rfl) :
  PE X (.Call (.Attribute (.Name x p) m apos) (e::es) [] pos) (Ad sp dvs E t):=by
 intro pins s σ H Q I h
 refine PySem.W.methodCall_KW (pl:=pl) (fQ I hg hm (PySem.W.method_cls I.kIn sg (PySem.W.cls_value I.kIn rd fc rfl ?_)) hdb) ht
 have I1:=I.tok (s.toks+1)
 refine PySem.W.callWith_K (first:=[]) (h₀:=X.base) I.ok.mod.kin hk (thn (ha pos pins _ σ H _ I1 h) fun us s1 ⟨vs,H1,J,r,q⟩=>⟨J.kIn,?_⟩) hst hpl
 exact kQ F hr hb hd hx J r q
end
theorem vD:typeOf (.type "Exception")=pure (.type "type"):=by kernel_rfl
theorem rM:Manifest.isStub "Exception" = false:=by decide +kernel
theorem rN {prog:Program} {w:World} {A:Around} {E:Value→Shared→Prop} {s:Shared} {K:Ay} {pl:Sem Bool} {Q:Value × List Value→Shared→Prop} (Y:K.In s.heap)
  (hga:PySem.W.findIn K (.type "type") "__getattribute__" = some (some (.builtin "type.__getattribute__"))) (sb:PySem.W.subIn K (.type "type") (.type "type")=some true) (fc:PySem.W.findCls K (.type "Exception") (.type "type") "__init__" = some (.val (.builtin "Exception.__init__")))
  (k:Q (.builtin "Exception.__init__",[]) { s with toks:=s.toks+1 }) : wpAny (model prog w) A (getMethod (.type "Exception") "__init__" pl) Q E s:=by
 have l1:PySem.W.Looks (model prog w) s.heap (typeOf (.type "Exception")) (.type "type"):=PySem.W.Looks.of_pure vD
 have l2:PySem.W.Looks (model prog w) s.heap (opaqueClassAbove (.type "Exception")) none:=PySem.W.Looks.of_pure (by
  show (pure (if Manifest.isStub "Exception" then some ("Exception" : Str) else none) : Sem (Option Str))=pure none
  rw [rM]
  rfl)
 unfold getMethod
 refine Jf ((l1.andThen (PySem.W.looks_findIn Y hga)).here ?_)
 dsimp only
 rw [J3 PySem.W.canon_tga]
 refine Jf (PySem.W.cls_open Y l2 l1 hga (PySem.W.looks_hook Y rfl) sb fc ?_)
 refine Y0 ?_
 show wpAny _ _ (handedOut (.builtin "Exception.__init__")) _ _ _
 rw [PySem.W.handedOut_of (by decide +kernel)]
 exact Y0 (Y0 k)
def tExc (K:Ay) (R:Addr) (t:TA) : TE:=fun σ H Q=>t σ H fun vs H1=>∃ (a C:Addr) (dd:Option Addr) (y:V),vs=[.ref a,y]∧H1 a=some (XO a C dd)∧xC K R C∧Q .non H1
theorem nD {X:Cx} {p pos apos:Pos} {e:Expr} {es:List Expr} {t:TA} {pl:Sem Bool} {R:Addr} (hg:Gl X "Exception") (hm:X.mg "Exception" = none)
  (hga:PySem.W.findIn X.K (.type "type") "__getattribute__" = some (some (.builtin "type.__getattribute__"))) (sb:PySem.W.subIn X.K (.type "type") (.type "type")=some true) (fc:PySem.W.findCls X.K (.type "Exception") (.type "type") "__init__" = some (.val (.builtin "Exception.__init__")))
  (ha:PA X (e::es) t)
  (hst:starEach (e::es) X.env=(false,eval e X.env)::starEach es X.env:=by rfl) (hpl:(backTo pos (starEach es X.env)).any (·.1)=false:=by rfl)
  (ht:eval (.Call (.Attribute (.Name "Exception" p) "__init__" apos) (e::es) [] pos) X.env=(do
   let ov ← eval (.Name "Exception" p) X.env
   standAt apos.atName
   let (f,first) ← holding [ov] (getMethod ov "__init__" pl)
   callWith pos f first (backTo pos (starEach (e::es) X.env)) (backToKw pos (keywordEach [] X.env))):=by rfl) :
  PE X (.Call (.Attribute (.Name "Exception" p) "__init__" apos) (e::es) [] pos) (tExc X.K R t):=by
 intro pins s σ H Q I h
 refine PySem.W.methodCall_KW (pl:=pl) (f9 I hg hm PyProof.Rows.Boot.«Exception» (rN I.kIn hga sb fc ?_)) ht
 have I1:=I.tok (s.toks+1)
 refine PyProof.Rows.callWith_builtin1 (thn (ha pos pins _ σ H _ I1 h) fun us s1 ⟨vs,H1,J,r,a,C,dd,y,ev,ea,ec,q⟩=>?_) hst hpl
 subst ev
 obtain ⟨u,us,rfl,ru,r⟩ : ∃ u us',us=u::us'∧RelV (.ref a) u∧Vals [y] us':=by
  cases r with
  | cons r1 r2=>exact ⟨_,_,rfl,r1,r2⟩
 obtain ⟨u2,rfl,_⟩:=Vals.one r
 obtain rfl:u=Value.ref a:=ru
 obtain ⟨cn,cq,N,bs,sn,sub,ab,col,cdd,k0,k1,k2,k3,k5,gK⟩:=ec.ob
 obtain ⟨⟨t0,ge⟩,_⟩:=J.hok a _ ea
 obtain ⟨h1,g1,d1,t1,o1⟩:=s1
 refine wpAny_call (rG PySem.F.excBase_Exception (u6 R) (J.kIn _ _ gK) ge rfl rfl (v0:=rfl) ?_)
 have gP:=Jh (h:=h1) { cls:=.type "tuple",data:=.seq #[u2] } ge
 have e2:((h1.push { cls:=.type "tuple",data:=.seq #[u2] }).update a (Obj.mapFields (·.setIfInBounds 0 (.ref h1.objs.size)))).get? a=some { cls:=.ref C,dict:=dd,data:=.fields #[.ref h1.objs.size,.none,.none,.none,.bool false,.none] }:=Heap.get?_update_self _ gP rfl
 have J1:=J.kept (h':=h1.push { cls:=.type "tuple",data:=.seq #[u2] }) (t':=t1) fun b o g=>Jh _ g
 have J2:=J1.write (x:=a) (e:=a) (o:=XO a C dd) (t':=t1) (h':=(h1.push { cls:=.type "tuple",data:=.seq #[u2] }).update a (Obj.mapFields (·.setIfInBounds 0 (.ref h1.objs.size)))) (by rw [ea];exact True.intro) (.inl rfl)
  (fun b o nb g=>(Heap.get?_update_other _ _ (Ne.symm nb)).trans g) ⟨_,e2⟩ (rJ e2)
 rw [vz ea] at J2
 exact ⟨.non,H1,J2,rfl,q⟩
def sXfld (K:Ay) (R:Addr) (ta tv:TE) (f:Str) : TS:=fun D σ H=>tv σ H fun y H1=>ta σ H1 fun x H2=>∃ (a C:Addr),x=.ref a∧f = "text" ∧ H2 a=some (XO a C none)∧xC K R C ∧
 ∀ dx,H2 dx=none→D.nx σ (upd (upd H2 dx (.xd [(f,y)])) a (XO a C (some dx)))
theorem uA {X:Cx} {o value:Expr} {f:Str} {pos pos':Pos} {ta tv:TE} {R:Addr} (ha:PE X o ta) (hv:PE X value tv) (hs:swapsWith value (some (.Attribute o f pos')) pos.line X.env=pure false) : PS X (.Assign [.Attribute o f pos'] value pos) (sXfld X.K R ta tv f):=by
 intro pins s σ H D I h
 refine plainObj_wpAny_Assign_Attribute (thn (hv pins s σ H _ I h) fun u s1 ⟨y,H1,I1,ry,q⟩=>thn (ha pins s1 σ H1 _ I1 q) fun ov s2 ⟨x,H2,J,rx,a,C,ex,ef,ea,ec,q2⟩=>?_) hs
 subst ex ef
 obtain rfl:ov=Value.ref a:=rx
 obtain ⟨cn,cq,N,bs,sn,sub,ab,col,cdd,k0,k1,k2,k3,k5,gK⟩:=ec.ob
 obtain ⟨⟨t0,ge⟩,_⟩:=J.hok a _ ea
 obtain ⟨h2,g2,d2,t2,o2⟩:=s2
 have hdx:H2 h2.objs.size=none:=J.hok.fresh (Jm _)
 have nad:a≠h2.objs.size:=Nat.ne_of_lt (Jv ge)
 refine pN (J.kIn _ _ gK) ge rfl rfl rfl (kE J.kIn ec.sa) (kE J.kIn ec.no) (c_obj R) (nC a C R) fun h' tk' ge' hn kp=>?_
 have lt:∀ b o,h2.get? b=some o→b≠h2.objs.size:=fun b o g=>Nat.ne_of_lt (Jv g)
 have ups:∀ b u,H2 b=some u→b≠a→upd (upd H2 h2.objs.size (.xd [("text",y)])) a (XO a C (some h2.objs.size)) b=some u:=fun b u g n=>by
  rw [ao n,ao (aE g hdx)]
  exact g
 have J2:Inv X pins σ (upd (upd H2 h2.objs.size (.xd [("text",y)])) a (XO a C (some h2.objs.size))) ⟨h',g2,d2,tk',o2⟩:=by
  refine J.un (h':=h') (t':=tk') ⟨fun b o g n _ _=>kp b o (fun z=>by rw [z,ea] at n;cases n) g,fun b o g n _ _=>⟨o.slots,kp b o (fun z=>by rw [z,ea] at n;cases n) g⟩,fun b o g n _=>?_,fun b o g _=>?_,fun b xs g=>ups b _ g (fun z=>by rw [z,ea] at g;cases g),
   fun b o u g=>ups b _ g (fun z=>by rw [z,ea] at g;cases g),fun b ps g=>⟨#[],by rw [ups b _ g (fun z=>by rw [z,ea] at g;cases g)];simp⟩⟩ fun b u g=>?_
  ·have nb:b≠a:=fun z=>by rw [z,ea] at n;cases n
   rw [ao nb,ao (lt b o g)]
   exact n
  ·by_cases z:b=a
   ·subst z
    exact ⟨_,ge'⟩
   ·exact ⟨o,kp b o z g⟩
  ·by_cases z:b=a
   ·subst z
    rw [af] at g
    cases g
    exact rJ ge'
   ·rw [ao z] at g
    by_cases z2:b=h2.objs.size
    ·subst z2
     rw [af] at g
     cases g
     refine ⟨_,hn,fun f=>?_⟩
     by_cases e:f = "text"
     ·subst e
      rw [J3 rfl,List.lookup_cons_self]
      exact ry
     ·rw [J0 e,List.lookup_cons,show (f==("text" : Str))=false from by simpa using e]
      exact True.intro
    ·rw [ao z2] at g
     refine (J.hok b u g).stay (fun c v hc q=>kp c v (fun w=>?_) q) (fun c q=>ups c _ q (fun w=>by rw [w,ea] at q;cases q)) fun c xs q=>ups c _ q (fun w=>by rw [w,ea] at q;cases q)
     rcases hc with hc | hc
     ·exact z (hc.symm.trans w)
     ·rw [w,ea] at hc;cases hc
 exact ⟨σ,_,J2,q2 _ hdx⟩
end Kp
namespace Kp
open PySem PySem.Spec PyProof.Rows L2
structure Au (P:Program) (w:World) (outer:List Env) (H H':Hp) (h h' B:Heap) (W:Addr→Prop) (a:Addr) (cls:Value) (dd:Option Addr) : Prop where
 un:Un (frs outer) [] H H' h h'
 hok:HOk P w H' h'
 fly:Fly B outer a cls dd h'
 new:∀ b,W b→h.get? b=none∧H' b=none
 all:∀ b o,h'.get? b=some o→b∉frs outer→¬ W b→B.get? b=some o
theorem Au.step {P:Program} {w:World} {outer:List Env} {H H':Hp} {h h' h2 B:Heap} {W:Addr→Prop} {a:Addr} {cls:Value} {dd:Option Addr} (X:Au P w outer H H' h h' B W a cls dd) (fr:∀ b∈frs outer,H b=none∧∃ o,h.get? b=some o)
  (F:Fly B outer a cls dd h2) (up:h'.UpToSlots h2) : ∃ W',Au P w outer H H' h h2 B W' a cls dd:=by
 have old:∀ b o,h.get? b=some o→¬ W b:=fun b o g z=>by rw [(X.new b z).1] at g;cases g
 have frH:∀ b∈frs outer,H' b=none:=fun b m=>let ⟨n,o,g⟩:=fr b m;X.un.free b o g n (by simp)
 have kp:∀ b u o,H' b=some u→h'.get? b=some o→h2.get? b=some o:=fun b u o t g =>
  F.stays b o (X.all b o g (fun m=>by rw [frH b m] at t;cases t) fun z=>by rw [(X.new b z).2] at t;cases t)
 refine ⟨fun b=>W b∨h'.get? b=none,⟨⟨fun b o g n nf _=>?_,fun b o g n mf _=>?_,X.un.free,fun b o g _=>?_,X.un.tups,X.un.frzs,X.un.tbls⟩,fun b u g=>?_,F,fun b z=>?_,fun b o g nf nw=>?_⟩⟩
 ·exact F.stays b o (X.all b o (X.un.keep b o g n nf (by simp)) nf (old b o g))
 ·obtain ⟨sl,g2⟩:=X.un.slot b o g n mf (by simp)
  obtain ⟨_,of,gf,nf⟩:=X.fly.frames.mem mf
  rw [g2] at gf
  obtain ⟨sl3,g3⟩:=up b _ g2 fun us q=>nf us (by rw [← Option.some.inj gf];exact q)
  exact ⟨sl3,g3⟩
 ·obtain ⟨o2,g2⟩:=X.un.there b o g (by simp)
  by_cases mf:b∈frs outer
  ·obtain ⟨_,of,gf,nf⟩:=X.fly.frames.mem mf
   obtain ⟨sl3,g3⟩:=up b _ gf nf
   exact ⟨_,g3⟩
  ·exact ⟨o2,F.stays b o2 (X.all b o2 g2 mf (old b o g))⟩
 ·refine (X.hok b u g).stay (fun c v hc q=>?_) (fun _ q=>q) fun _ _ q=>q
  rcases hc with rfl | hc
  ·exact kp c u v g q
  ·exact kp c _ v hc q
 ·rcases z with z | z
  ·exact X.new b z
  ·constructor
   ·cases g:h.get? b with
    | none=>rfl
    | some o =>
     obtain ⟨o2,g2⟩:=X.un.there b o g (by simp)
     rw [z] at g2
     cases g2
   ·cases g:H' b with
    | none=>rfl
    | some u =>
     obtain ⟨ob,g2⟩:=mB (X.hok b u g)
     rw [z] at g2
     cases g2
 ·cases g2:h'.get? b with
  | none=>exact absurd (.inr g2) nw
  | some o2 =>
   have hb:=X.all b o2 g2 nf fun z=>nw (.inl z)
   have:=F.stays b o2 hb
   rw [g] at this
   cases this
   exact hb
theorem Au.own {P:Program} {w:World} {outer:List Env} {H H':Hp} {h h' B:Heap} {W:Addr→Prop} {a:Addr} {cls:Value} {dd:Option Addr} (X:Au P w outer H H' h h' B W a cls dd) : h.get? a=none∧H' a=none∧a∉frs outer:=by
 obtain ⟨oe,vs,g,_,_,d,_⟩:=X.fly.at_
 have nf:a∉frs outer:=fun m=>by
  obtain ⟨_,of,gf,nf⟩:=X.fly.frames.mem m
  rw [g] at gf
  cases gf
  exact nf vs d
 have z:W a:=Classical.byContradiction fun n=>by
  have:=X.all a oe g nf n
  rw [X.fly.new] at this
  cases this
 exact ⟨(X.new a z).1,(X.new a z).2,nf⟩
def tTry (sp:Sp) (t:TA) : TS:=fun D σ H=>t σ H fun vs H1=>sp vs H1 D.rt fun _ dx H2=>∃ (d:Addr) (x:Str),dx=some d∧H2 d=some (.xd [("text",.str x)])∧D.rt (.str x) H2
theorem rO {X:Cx} {pins:List (Addr × Obj)} {σ:L2.St} {H:Hp} {s:Shared} (I:Inv X pins σ H s) (E:Value→Shared→Prop) : Inv { X with pn:=X.pn++pins,xe:=E } [] σ H s :=
 ⟨⟨I.ok.mod,I.ok.kind,I.ok.glob,I.ok.blt,I.ok.above,I.ok.inj,I.ok.has,I.ok.cab,I.ok.hd,I.ok.frames,I.ok.stk,I.ok.exf,I.ok.bs,I.ok.bsz,I.ok.noex,I.ok.exfs,I.ok.funs,I.ok.frf⟩,I.os,I.bare,I.base,I.loc,I.cell,I.free,I.freeC,fun p m=>I.pin p (by simpa using m),I.hok,I.len⟩
theorem eo {X:Cx} {pins more:List (Addr × Obj)} {σ:L2.St} {H:Hp} {s:Shared} {E:Value→Shared→Prop} (I:Inv { X with pn:=X.pn++pins,xe:=E } more σ H s) : Inv X pins σ H s :=
 ⟨⟨I.ok.mod,I.ok.kind,I.ok.glob,I.ok.blt,I.ok.above,I.ok.inj,I.ok.has,I.ok.cab,I.ok.hd,I.ok.frames,I.ok.stk,I.ok.exf,I.ok.bs,I.ok.bsz,I.ok.noex,I.ok.exfs,I.ok.funs,I.ok.frf⟩,I.os,I.bare,I.base,I.loc,I.cell,I.free,I.freeC,fun p m=>I.pin p (Ye _ m),I.hok,I.len⟩
theorem mC {X:Cx} {pins:List (Addr × Obj)} {σ:L2.St} {H:Hp} {s:Shared} (I:Inv X pins σ H s) (v:Value) : Inv { X with A:=X.A.mark (some v),calm:=false,xe:=fun _ _=>False } pins σ H s :=
 ⟨⟨I.ok.mod,I.ok.kind,I.ok.glob,I.ok.blt,I.ok.above,I.ok.inj,I.ok.has,I.ok.cab,(fun z=>by cases z),I.ok.frames,I.ok.stk,I.ok.exf,I.ok.bs,I.ok.bsz,I.ok.noex,I.ok.exfs,I.ok.funs,I.ok.frf⟩,I.os,I.bare,I.base,I.loc,I.cell,I.free,I.freeC,I.pin,I.hok,I.len⟩
theorem nF {X:Cx} {pins:List (Addr × Obj)} {σ:L2.St} {H:Hp} {s:Shared} {h8:Heap} {m8:Str→Option Value} {tk:Nat} (I:Inv X pins σ H s) (hn:h8.Ns X.env.locals m8) (hs:Heap.SameBut X.env.locals s.heap h8) : Inv X pins (σ.map fun _=>none) H { s with heap:=h8,toks:=tk }:=by
 obtain ⟨m,⟨oL,_,_,gL,_⟩,_⟩:=I.loc
 have lt:∀ b o,X.s₀.heap.get? b=some o→b≠X.env.locals:=fun b o g=>Nat.ne_of_lt (Nat.lt_of_lt_of_le (Jv g) I.ok.above)
 refine ⟨I.ok,I.os,I.bare,⟨fun b o g n hb hx=>(hs.2 b (lt b o g)).trans (I.base.keep b o g n hb hx),fun b o g n hb hx=>?_,I.base.free,fun b o g hx=>?_,I.base.tups,I.base.frzs,I.base.tbls⟩,⟨m8,hn,fun j y v e1 e2 e3=>?_⟩,fun y c e=>?_,I.free,I.freeC,fun p hp=>?_,fun b u g=>?_,by rw [J9];exact I.len⟩
 ·obtain ⟨sl,e1⟩:=I.base.slot b o g n hb hx
  exact ⟨sl,(hs.2 b (lt b o g)).trans e1⟩
 ·obtain ⟨o',e1⟩:=I.base.there b o g hx
  exact ⟨o',(hs.2 b (lt b o g)).trans e1⟩
 ·rw [Jw] at e2
  cases z : σ[j]? with
  | none=>rw [z] at e2;cases e2
  | some w=>rw [z] at e2;cases e2
 ·obtain ⟨w',z⟩:=I.cell y c e
  exact ⟨w',z.sameBut hs (I.cne y c e)⟩
 ·obtain ⟨e,n,ne,nf,d⟩:=I.pin p hp
  exact ⟨(hs.2 p.1 ne).trans e,n,ne,nf,d⟩
 ·refine (I.hok b u g).stay (fun c w' hc q=>(hs.2 c ?_).trans q) (fun _ q=>q) fun _ _ q=>q
  rintro rfl
  rcases hc with rfl | hc
  ·rw [I.free] at g;cases g
  ·rw [I.free] at hc;cases hc
theorem vE {X:Cx} {R f:Addr} {fd:FuncData} {ps:List Str} {sp:Sp} {k:Nat} {fx a b x n:Str} {p0 p1 p2 p3 p4 p5 p6 p7 p8 p9 pos:Pos} (er:ErrR X.K R) (F:we X.prog X.w X.K X.mg X.base (CXX X.prog X.w X.K R) k f fd ps sp) (hr:wK k X.A) (hg:Gl X fx) (hm:X.mg fx=some (.ref f)) (hk:PySem.W.keepIn X.K (.ref f)=true) (hb:Binds X.K fd ps [])
  (ia:X.N[0]? = some a) (va:Vis X.env.scope a) (ib:X.N[1]? = some b) (vb:Vis X.env.scope b) (hgR:Gl X x) (hmR:X.mg x=some (.ref R)) (i2:X.N[2]? = some n) (hN:X.N.Nodup) (hn:X.env.scope.names.lookup n=some .local) (hst:X.stack=X.env::X.outer) (hfr:X.env.frame=some X.env.locals)
  (da:(a==("__debug__" : Str))=false:=by decide) (ca:(a==("__classdict__" : Str))=false:=by decide) (db:(b==("__debug__" : Str))=false:=by decide) (cb:(b==("__classdict__" : Str))=false:=by decide) (df:(fx==("__debug__" : Str))=false:=by decide) (dx':(x==("__debug__" : Str))=false:=by decide)
  (dn:(n==("__debug__" : Str))=false:=by decide) (cn':(n==("__classdict__" : Str))=false:=by decide)
  (hA:attributeBase (.Name n p6) "text" X.env (eval (.Name n p6) X.env)=eval (.Name n p6) X.env:=by rfl) :
  PS X (.Try [.Return (some (.Call (.Name fx p0) [.Name a p1,.Name b p2] [] p3)) p4] [.ExceptHandler (some (.Name x p5)) (some n) [.Return (some (.Attribute (.Name n p6) "text" p7)) p8] p9] [] [] pos) (tTry sp (xV (yx 0) (xV (yx 1) yP))):=by
 intro pins s σ H D I h
 refine wpAny_Try_except ?_
 let E':Value→Shared→Prop:=fun e s₁=>wpAny (model X.prog X.w) X.A (noteFrame e X.env) (fun _ s₂=>wpAny (model X.prog X.w) X.A (setFlight e none) (fun _ s₃=>wpAny (model X.prog X.w) X.A (handleBy e X.env [.ExceptHandler (some (.Name x p5)) (some n) [.Return (some (.Attribute (.Name n p6) "text" p7)) p8] p9]) (SP X pins D) X.xe s₃) X.xe s₂) X.xe s₁
 let X':Cx:={ X with pn:=X.pn++pins,xe:=E' }
 have hx:Passes (CXX X.prog X.w X.K R) X' (fun _ dx H2=>∃ (d:Addr) (x:Str),dx=some d∧H2 d=some (.xd [("text",.str x)])∧D.rt (.str x) H2):=by
  rintro pins2 σ1 H1 s1 e s' I2 ⟨ea,C,dx,H',B,W,rfl,os,bare,un,hok,fly,hW,hB,ec,d,t,ed,hd,q⟩
  cases ed
  have I1:Inv X pins σ1 H1 s1:=eo I2
  obtain ⟨cn,cq,N,bs,sn,sub,ab,col,cdd,k0,k1,k2,k3,k5,gK⟩:=ec.ob
  obtain ⟨rn,rq,RN,rbs,rh,rsn,rsub,rab,rcol,rdd,r0,r1,r2,r3,r5,rid,gR⟩:=er
  have fr:∀ b∈frs X.stack,H1 b=none∧∃ o,s1.heap.get? b=some o:=fun b m=>⟨I1.yr b m,let ⟨_,o,g,_⟩:=I1.stack.mem m;⟨o,g⟩⟩
  have X0:Au X.prog X.w X.stack H1 H' s1.heap s'.heap B W ea (.ref C) (some dx):=⟨un,hok,fly,hW,hB⟩
  have fly0:Fly B (X.env::X.outer) ea (.ref C) (some dx) s'.heap:=by rw [← hst];exact fly
  have fr0:X.A.frames=some (X.env::X.outer):=by rw [← hst];exact I1.ok.frames
  show wpAny _ _ (noteFrame _ _) _ _ s'
  refine noted fr0 hfr fly0 fun h4 F4 up4=>?_
  rw [← hst] at F4
  obtain ⟨W4,X4⟩:=X0.step fr F4 up4
  have J4:Inv X pins σ1 H' { s' with heap:=h4 }:=I1.call' (s':={ s' with heap:=h4 }) (ch:=[]) os X4.un X4.hok bare fun b z=>absurd z (by simp)
  refine wpAny_handleBy_cons (codeAny_handlers_test (fQ (mC J4 (.ref ea)) hgR hmR ?_ dx')) (by intro q;cases q)
  obtain ⟨oe,vs,ge,ce,de,fe,_⟩:=F4.at_
  obtain ⟨hs,gs,ds,ts,os'⟩:=s'
  refine pM (J4.kIn _ _ gK) (J4.kIn _ _ gR) ge ce rfl (vC C R) (codeAny_handlers_suite_as ?_)
  refine lands (s:=⟨h4,gs,ds,ts,os'⟩) F4 fun h5 F5 up5=>?_
  obtain ⟨W5,X5⟩:=X4.step fr F5 up5
  obtain ⟨n1,n2,n3⟩:=X5.own
  obtain ⟨oe,vs,ge,ce,de,fe,_⟩:=F5.at_
  have J5:Inv X pins σ1 H' ⟨h5,gs,ds,ts,os'⟩:=I1.call' (s':=⟨h5,gs,ds,ts,os'⟩) (ch:=[]) os X5.un X5.hok bare fun b z=>absurd z (by simp)
  have nl:ea≠X.env.locals:=fun z=>n3 (by rw [hst];unfold frs;rw [List.filterMap_cons,hfr,z];exact Jb)
  have nfs:ea∉X.fs:=fun z=>n3 (by rw [hst];unfold frs;rw [List.filterMap_cons,hfr];exact Jd _ z)
  have J5p:Inv X (pins++[(ea,oe)]) σ1 H' ⟨h5,gs,ds,ts,os'⟩:=J5.kM fun p m=>by
   rcases Y1.mp m with m | m
   ·exact J5.pin p (Yc _ m)
   ·rw [Y5] at m
    subst m
    exact ⟨ge,n2,nl,nfs,fun v z=>by rw [fe] at z;cases z⟩
  have il : 2<σ1.length:=by rw [J5.len];exact (Jg.mp i2).1
  refine jf (X:={ X with A:=X.A.mark (some (.ref ea)),calm:=false,xe:=fun _ _=>False }) (mC J5p (.ref ea)) (i:=2) (x:=n) (v:=.ref ea) hN i2 (.inl hn) rfl (fun s6 J6=>?_) (.inr hn)
  refine wpAny_execs_cons (wpAny_mono (E:=fun _ _=>False) (Q:=fun f s₁=>∃ (u:Value) (σ':L2.St),f=.ret u∧RelV (.str t) u∧Inv { X with A:=X.A.mark (some (.ref ea)),calm:=false,xe:=fun _ _=>False } (pins++[(ea,oe)]) σ' H' s₁) ?_ (fun f s7 z=>?_) fun _ _ z=>z.elim)
  ·refine wpAny_Return_some (oi hA (thn (kN (X:={ X with A:=X.A.mark (some (.ref ea)),calm:=false,xe:=fun _ _=>False }) (i:=2) i2 (.inl hn) dn cn' _ s6 _ H' (fun v H3=>v=.ref ea∧H3=H') J6 ⟨_,List.getElem?_set_self il,rfl,rfl⟩) fun ov s7 ⟨v,H3,J7,r,ev,eH⟩=>?_))
   subst ev eH
   obtain rfl:ov=Value.ref ea:=r
   have ge7:s7.heap.get? ea=some oe:=(J7.pin (ea,oe) (by simp)).1
   obtain ⟨mA,hnA,hrel⟩:=J7.hok dx _ hd
   obtain ⟨u,hu,ru⟩:=xw.some_of (v:=.str t) (o:=mA "text") (by have z:=hrel "text";rw [List.lookup_cons_self] at z;exact z)
   obtain ⟨h7,g7,d7,t7,o7⟩:=s7
   exact rH (J7.kIn _ _ gK) ge7 ce fe de hnA hu (PySem.W.handedOut_of (j4 ru)) (kE J7.kIn ec.ga) (kE J7.kIn ec.gh) (kE J7.kIn ec.no) (rK R) ⟨u,_,rfl,ru,J7.tok _⟩
  ·obtain ⟨u,σ',rfl,ru,J7⟩:=z
   show wpAny _ _ (do bindName X.env n .none;unbindBehindTheSuite X.env n p9) _ _ _
   have J8:Inv X pins σ' H' s7:=⟨I.ok,J7.os,J7.bare,J7.base,J7.loc,J7.cell,J7.free,J7.freeC,fun p m=>J7.pin p (by rcases Y1.mp m with m | m <;> simp [m]),J7.hok,J7.len⟩
   obtain ⟨m,hm7,_⟩:=J8.loc
   have hcls:(X.env.scope.kind==.class || (X.env.scope.kind==.module && X.env.locals != X.env.globals))=false:=by rw [I.ok.kind];rfl
   refine wpAny_nameGoes hn hm7 hcls fun h8 m8 hn8 sb=>?_
   exact ⟨.str t,_,H',nF J8 hn8 sb,ru,q⟩
 have I':Inv X' [] σ H s:=rO I E'
 have pa:PA X' [.Name a p1,.Name b p2] (xV (yx 0) (xV (yx 1) yP)):=aa (kN ia va da ca) (aa (kN ib vb db cb) aj)
 refine thn (ak (aA (aV (X:=X') (E:=_) F hr hg hm hk hb .nil hx pa df)) [] s σ H D I' h) fun f s1 q=>?_
 cases f with
 | next =>
  obtain ⟨σ',H',J,q⟩:=q
  exact wpAny_execs_nil ⟨σ',H',eo J,q⟩
 | ret v =>
  obtain ⟨v,σ',H',J,r,q⟩:=q
  exact ⟨v,σ',H',eo J,r,q⟩
 | brk =>
  obtain ⟨σ',H',J,q⟩:=q
  exact ⟨σ',H',eo J,q⟩
 | cont =>
  obtain ⟨σ',H',J,q⟩:=q
  exact ⟨σ',H',eo J,q⟩
end Kp
namespace Kp
open PySem L2
open PySem.MeetsSeq PySem.SeqAt
theorem rP (l:Addr) (its:Array Value) (n:Nat) (x:Value) (eq:Value→Bool) (j:Nat) (hj:j<its.size) (hit:eq its[j]=true) (k:Nat) (hz:its.size≤sizeLine) :
  ∀ i:Nat,j-i=k→i≤j→(∀ m (hm:m<its.size),i≤m→m<j→eq its[m]=false)→Meets (Builtin.«list.remove.loop» ⟨[.ref l,x,rawInt i],[]⟩)
   (fun A R s=>s.heap.get? l=some { cls:=.type "list",dict:=none,data:=.seq its n,slots:=#[] }∧(∀ y,y∈its→EqAt A.in1 s y x (eq y))∧R (.ok (.ret .none)) { s with heap:=s.heap.update l (Obj.mapSeq fun xs=>xs.eraseIdxIfInBounds j) }):=by
 induction k with
 | zero =>
  intro i hk le no prog w A R s h
  obtain ⟨hp,gg,dr,tk,os⟩:=s
  obtain ⟨gl,he,h⟩:=h
  have ij:i=j:=by omega
  subst ij
  wp_walk using wpAny_loadPart' gl
  have at_:its[((i:Nat) : Int).toNat]? = some its[i]:=by simp [hj]
  rw [at_]
  refine Jf (he _ (Array.getElem_mem hj) prog w _ _ ?_)
  rw [hit]
  have z2:(its.eraseIdxIfInBounds i).size≤sizeLine+1:=Ju (size_erased its _) (Nat.le_succ_of_le hz)
  wp_walk using (wpAny_updateSeq gl rfl (hz:=hz) (_hz':=z2)),wpAny_loadPart' gl
  simpa using h
 | succ k ih =>
  intro i hk le no prog w A R s h
  obtain ⟨hp,gg,dr,tk,os⟩:=s
  obtain ⟨gl,he,h⟩:=h
  have lt:i<its.size:=by omega
  wp_walk using wpAny_loadPart' gl
  have at_:its[((i:Nat) : Int).toNat]? = some its[i]:=by simp [lt]
  have nx:((i:Int)+1)=((i+1:Nat) : Int):=by push_cast;rfl
  rw [at_]
  refine Jf (he _ (Array.getElem_mem lt) prog w _ _ ?_)
  rw [no i lt (Jm _) (by omega)]
  wp_walk
  rw [nx]
  refine ⟨plainId_quiet plain_remove_loop _,codeAny_builtin entry_remove_loop ?_⟩
  rw [Around.under_plainId plain_remove_loop _]
  exact ih (i+1) (by omega) (by omega) (fun m hm h1 h2=>no m hm (by omega) h2) prog w A R _ ⟨gl,he,h⟩
theorem pO (l:Addr) (its:Array Value) (n:Nat) (x:Value) (eq:Value→Bool) (j:Nat) (hj:j<its.size) (hit:eq its[j]=true) (no:∀ m (hm:m<its.size),m<j→eq its[m]=false) (hz:its.size≤sizeLine) :
  Meets (Builtin.«list.remove» ⟨[.ref l,x],[]⟩)
   (fun A R s=>s.heap.get? l=some { cls:=.type "list",dict:=none,data:=.seq its n,slots:=#[] }∧(∀ y,y∈its→EqAt A.in1 s y x (eq y))∧R (.ok (.ret .none)) { s with heap:=s.heap.update l (Obj.mapSeq fun xs=>xs.eraseIdxIfInBounds j) }):=by
 intro prog w A R s h
 obtain ⟨hp,gg,dr,tk,os⟩:=s
 obtain ⟨gl,he,h⟩:=h
 wp_walk using wpAny_loadPart' gl
 refine ⟨plainId_quiet plain_remove_loop _,codeAny_builtin entry_remove_loop ?_⟩
 rw [Around.under_plainId plain_remove_loop _]
 exact rP l its n x eq j hj hit _ hz 0 rfl (Nat.zero_le _) (fun m hm _ h2=>no m hm h2) prog w A R _ ⟨gl,he,h⟩
theorem uB {A:Around} {s:Shared} {a b C:Addr} (X:s.heap.CmpInst a C [.type "object"]) (Y:s.heap.CmpInst b C [.type "object"]) (hu:A.units<cLine) : EqAt A s (.ref a) (.ref b) (decide (a=b)):=by
 by_cases e:a=b
 ·subst e
  rw [Je rfl]
  exact EqAt.same _
 ·rw [Js e]
  refine EqAt.of_refs e fun prog w E Q q=>?_
  obtain ⟨h,gg,dr,tk,os⟩:=s
  exact richCompare_eq_other F.cmp_object F.cmp_object X Y e hu q
end Kp
namespace Kp
open PySem PySem.Spec PyProof.Rows L2
def EqC (K:Ay) (C:Addr) : Prop:=∃ (cn cq:Str) (N:Addr) (bs:List Value) (hdct:Bool) (sn:List Str) (sub:List Value) (ab:Bool) (col:Option Bool) (dd:Option Addr) (k0 k1 k2 k3 k5:Option Value) (newId:String),
 K.lookup C=some (excClassObj cn cq C N bs [.type "object"] hdct sn sub ab col dd k0 k1 k2 k3 k5 newId)∧PySem.W.nsOkIn K N=true∧PySem.W.nsIn K N "__eq__" = some none∧PySem.W.nsIn K N "__ne__" = some none
theorem EqC.inst {K:Ay} {C x dx:Addr} {h:Heap} (e:EqC K C) (X:K.In h) (g:h.get? x=some (PySem.W.instObj C dx)) : h.CmpInst x C [.type "object"]:=by
 obtain ⟨cn,cq,N,bs,hdct,sn,sub,ab,col,dd,k0,k1,k2,k3,k5,newId,gK,ok,e1,e2⟩:=e
 exact ⟨_,cn,cq,N,bs,hdct,sn,sub,ab,col,dd,k0,k1,k2,k3,k5,newId,h.nsMap N,g,rfl,X _ _ gK,.of_isNs (PySem.W.isNs_of_in X ok),PySem.W.nsMap_none_of_in X ok e1,PySem.W.nsMap_none_of_in X ok e2⟩
def rRemI (C:Addr) : V→List V→Hp→VK→Prop:=fun x vs H Q=>∃ (l:Addr) (as:List Addr) (a:Addr),x=.ref l∧vs=[.ref a]∧H l=some (.lst (as.map V.ref))∧a∈as∧(∀ b∈as,∃ d fs,H b=some (.ins C d fs))∧Q .non (upd H l (.lst ((as.erase a).map V.ref)))
theorem mD:∀ {as:List Addr} {us:List Value},Vals (as.map V.ref) us→us=as.map Value.ref
 | [],_,.nil=>rfl
 | a::as,_,.cons r t=>by
  rw [List.map_cons,← mD t]
  congr 1
theorem jz {X:Cx} {C:Addr} (ec:EqC X.K C) (hu:X.A.units+64<cLine) : MtM X "list.remove" (rRemI C):=by
 intro pins s σ H x vs v us Q I rx rv h
 obtain ⟨l,as,a,rfl,rfl,hH,ha,hi,q⟩:=h
 cases rx
 obtain ⟨u,rfl,ru⟩:=rv.one
 obtain rfl:u=Value.ref a:=ru
 obtain ⟨z,its,k,r,hl,e⟩:=I.yY hH
 obtain rfl:=mD r
 obtain ⟨j,hj,ej,hno,hera⟩:=ju ha
 have cmp:∀ b∈as,s.heap.CmpInst b C [.type "object"]:=fun b m=>by
  obtain ⟨d,fs,hb⟩:=hi b m
  obtain ⟨_,_,_,g,_⟩:=I.hok b _ hb
  exact ec.inst I.kIn g
 refine call_meets PySem.F.slot_list_remove ⟨_,e,rfl⟩ PySem.F.entry_list_remove (PySem.F.args_list_remove_2 _ _) (pO l (as.map Value.ref).toArray k (.ref a) (fun y=>match y with | .ref b=>decide (b=a) | _=>false) j (by simpa using hj) ?_ (fun m hm hlt=>?_) (by rw [Jk,J9];rw [J9] at z;exact z)) ⟨e,fun y hy=>?_,?_⟩
 ·simp [ej]
 ·have hm':m<as.length:=by simpa using hm
  have:=hno m hm' hlt
  simpa using this
 ·obtain ⟨b,m,rfl⟩ : ∃ b,b∈as∧y=Value.ref b:=by
   have:y∈as.map Value.ref:=by simpa using hy
   obtain ⟨b,m,e⟩:=Yj.mp this
   exact ⟨b,m,e.symm⟩
  exact uB (cmp b m) (cmp a ha) (by show X.A.units+1<cLine;omega)
 ·refine ⟨.non,_,I.lset (its':=(as.map Value.ref).eraseIdx j) hH e ?_ ?_ ?_,rfl,q⟩
  ·rw [List.eraseIdxIfInBounds_toArray]
  ·rw [← hera,iE]
   exact r.eraseIdx j
  ·rw [J9]
   have:=List.length_erase_le (a:=a) (l:=as)
   rw [J9] at z
   omega
end Kp
namespace Kp
open PySem PySem.Spec PyProof.Rows L2
def MD (P:Program) (w:World) (K:Ay) (mg:Str→Option Value) (base:Heap) (CX:CXT) (C:Addr) (m:Str) (ps:List Str) (k:Nat) (sp:Sp) : Prop :=
 ∃ (f:Addr) (fd:FuncData),Meth K C m f∧Binds K fd ps []∧we P w K mg base CX k f fd ps sp
def FD (P:Program) (w:World) (K:Ay) (mg:Str→Option Value) (base:Heap) (CX:CXT) (x:Str) (ps:List Str) (k:Nat) (sp:Sp) : Prop :=
 ∃ (f:Addr) (fd:FuncData),mg x=some (.ref f)∧PySem.W.keepIn K (.ref f)=true∧Binds K fd ps []∧we P w K mg base CX k f fd ps sp
section
variable {X:Cx} {CX:CXT} {C:Addr} {m x:Str} {ps:List Str} {k:Nat} {sp:Sp} {E:XK} {o e:Expr} {es:List Expr} {ta:TE} {t:TA} {p pos apos:Pos} {pl:Sem Bool}
theorem bz (M:MD X.prog X.w X.K X.mg X.base CX C m ps k sp) (c:Cls X.K C) (hr:wK k X.A) (hx:Passes CX X E) (he:PE X o ta) (ha:PA X (e::es) t)
  (hst:starEach (e::es) X.env=(false,eval e X.env)::starEach es X.env:=by rfl) (hpl:(backTo pos (starEach es X.env)).any (·.1)=false:=by rfl)
  (ht:eval (.Call (.Attribute o m apos) (e::es) [] pos) X.env=(do
   let ov ← eval o X.env
   standAt apos.atName
   let (f,first) ← holding [ov] (getMethod ov m pl)
   callWith pos f first (backTo pos (starEach (e::es) X.env)) (backToKw pos (keywordEach [] X.env))):=by rfl) :
  PE X (.Call (.Attribute o m apos) (e::es) [] pos) (yS C m sp [] E ta t):=by
 obtain ⟨f,fd,hm,hb,G⟩:=M
 exact uc he c hm G hr hb .nil hx ha hst hpl ht
theorem eN (M:MD X.prog X.w X.K X.mg X.base CX C m ps k sp) (c:Cls X.K C) (hr:wK k X.A) (hx:Passes CX X E) (he:PE X o ta)
  (ht:eval (.Call (.Attribute o m apos) [] [] pos) X.env=(do
   let ov ← eval o X.env
   standAt apos.atName
   let (f,first) ← holding [ov] (getMethod ov m pl)
   callWith pos f first (backTo pos (starEach [] X.env)) (backToKw pos (keywordEach [] X.env))):=by rfl) :
  PE X (.Call (.Attribute o m apos) [] [] pos) (yS C m sp [] E ta yP):=by
 obtain ⟨f,fd,hm,hb,G⟩:=M
 exact qE he c hm G hr hb .nil hx ht
theorem h9 (M:FD X.prog X.w X.K X.mg X.base CX x ps k sp) (hr:wK k X.A) (hg:Gl X x) (hx:Passes CX X E) (ha:PA X (e::es) t) (hdb:(x==("__debug__" : Str))=false:=by decide)
  (hst:starEach (e::es) X.env=(false,eval e X.env)::starEach es X.env:=by rfl) (hpl:(backTo pos (starEach es X.env)).any (·.1)=false:=by rfl) : PE X (.Call (.Name x p) (e::es) [] pos) (Ad sp [] E t):=by
 obtain ⟨f,fd,hm,hk,hb,G⟩:=M
 exact aV G hr hg hm hk hb .nil hx ha hdb hst hpl
def KD (P:Program) (w:World) (K:Ay) (mg:Str→Option Value) (base:Heap) (x:Str) (C:Addr) (ps:List Str) (k:Nat) (sp:Sp) : Prop :=
 ∃ (f:Addr) (fd:FuncData),mg x=some (.ref C)∧Mk K C f∧Binds K fd ps []∧we P w K mg base CX0 k f fd ps sp
theorem oC (M:KD X.prog X.w X.K X.mg X.base x C ps k sp) (hr:wK (k+1) X.A) (hg:Gl X x) (ha:PA X (e::es) t) (hdb:(x==("__debug__" : Str))=false:=by decide)
  (hst:starEach (e::es) X.env=(false,eval e X.env)::starEach es X.env:=by rfl) (hpl:(backTo pos (starEach es X.env)).any (·.1)=false:=by rfl) : PE X (.Call (.Name x p) (e::es) [] pos) (tMake C sp [] E0 t):=by
 obtain ⟨f,fd,hm,mk,hb,G⟩:=M
 exact ud mk G hr hg hm hb .nil wg ha hdb hst hpl
def XD (P:Program) (w:World) (K:Ay) (mg:Str→Option Value) (base:Heap) (R:Addr) (x t:Str) (k:Nat) : Prop :=
 ∃ (C f:Addr) (fd:FuncData),xC K R C∧mg x=some (.ref C)∧PySem.W.findIn K (.ref C) "__init__" = some (some (.ref f))∧(∃ oI,K.lookup f=some oI∧oI.cls=.type "function")∧PySem.W.keepIn K (.ref C)=true∧Binds K fd ["self"] []∧we P w K mg base CX0 k f fd ["self"] (xt C t)
theorem eS {R:Addr} {tx:Str} {cp:Pos} (M:XD X.prog X.w X.K X.mg X.base R x tx k) (hr:wK (k+1) X.A) (hc:X.calm=true) (hg:Gl X x) (hx:Passes (CXX X.prog X.w X.K R) X E) (hdb:(x==("__debug__" : Str))=false:=by decide) :
  PS X (.Raise (some (.Call (.Name x p) [] [] cp)) none pos) (tRaise tx E):=by
 obtain ⟨C,f,fd,ec,hm,hi,hf,kp,hb,G⟩:=M
 exact rL ec G hr hc hg hm hi hf kp hb hx hdb
end
end Kp
namespace Kp
open PySem L2
theorem aQ {f:Str} {v w:V} {r:List (Str × V)} : wJ f v ((f,w)::r)=(f,v)::r:=by
 show (if f=f then _ else _)=_
 rw [J3 rfl]
theorem aM {f g:Str} {v w:V} {r:List (Str × V)} (n:¬ g=f) : wJ f v ((g,w)::r)=(g,w)::wJ f v r:=by
 show (if g=f then _ else _)=_
 rw [J0 n]
theorem aS {f:Str} {v:V} : wJ f v []=[(f,v)]:=rfl
theorem aT {f:Str} {v:V} {r:List (Str × V)} : List.lookup f ((f,v)::r)=some v:=List.lookup_cons_self
theorem aD {f g:Str} {v:V} {r:List (Str × V)} (n:¬ f=g) : List.lookup f ((g,v)::r)=List.lookup f r:=by
 rw [List.lookup_cons,show (f==g)=false from by simpa using n]
structure Cs where
 K:Addr
 S:Addr
 Y:Addr
 tH:Tok
 tT:Tok
 tW:Tok
 tG:Tok
structure YAd where
 dy:Addr
 c:Nat→Addr
 p:Nat→Addr
 pd:Nat→Addr
 q:Nat→Addr
 qd:Nat→Addr
def wu (i:Nat) (r:Rec) : List (Str × V):=[("number",.int (i:Nat)),("who",.str r.who),("show",.int (r.shw:Nat)),("many",.int r.many),("span",.int r.span),("state",.str r.st.txt),("until",xr r.til)]
def wG (room:Int) (he ro:Addr) : List (Str × V):=[("room",.int room),("here",.ref he),("row",.ref ro)]
def wX (s l:Addr) (now:Int) : List (Str × V):=[("shows",.ref s),("keepings",.ref l),("now",.int now)]
section
variable (i:Nat) (r:Rec) (room now:Int) (he ro s l:Addr)
theorem eU:(wu i r).lookup ("number" : Str)=some (.int (i:Nat)):=by unfold wu;(repeat (first | rw [aQ] | rw [aM (by decide +kernel)] | rw [aS] | rw [aT] | rw [aD (by decide +kernel)]))
theorem u7:(wu i r).lookup ("who" : Str)=some (.str r.who):=by unfold wu;(repeat (first | rw [aQ] | rw [aM (by decide +kernel)] | rw [aS] | rw [aT] | rw [aD (by decide +kernel)]))
theorem iI:(wu i r).lookup ("show" : Str)=some (.int (r.shw:Nat)):=by unfold wu;(repeat (first | rw [aQ] | rw [aM (by decide +kernel)] | rw [aS] | rw [aT] | rw [aD (by decide +kernel)]))
theorem fH:(wu i r).lookup ("many" : Str)=some (.int r.many):=by unfold wu;(repeat (first | rw [aQ] | rw [aM (by decide +kernel)] | rw [aS] | rw [aT] | rw [aD (by decide +kernel)]))
theorem vF:(wu i r).lookup ("span" : Str)=some (.int r.span):=by unfold wu;(repeat (first | rw [aQ] | rw [aM (by decide +kernel)] | rw [aS] | rw [aT] | rw [aD (by decide +kernel)]))
theorem cL:(wu i r).lookup ("state" : Str)=some (.str r.st.txt):=by unfold wu;(repeat (first | rw [aQ] | rw [aM (by decide +kernel)] | rw [aS] | rw [aT] | rw [aD (by decide +kernel)]))
theorem lG:(wu i r).lookup ("until" : Str)=some (xr r.til):=by unfold wu;(repeat (first | rw [aQ] | rw [aM (by decide +kernel)] | rw [aS] | rw [aT] | rw [aD (by decide +kernel)]))
theorem rQ:(wG room he ro).lookup ("room" : Str)=some (.int room):=by unfold wG;(repeat (first | rw [aQ] | rw [aM (by decide +kernel)] | rw [aS] | rw [aT] | rw [aD (by decide +kernel)]))
theorem nG:(wG room he ro).lookup ("here" : Str)=some (.ref he):=by unfold wG;(repeat (first | rw [aQ] | rw [aM (by decide +kernel)] | rw [aS] | rw [aT] | rw [aD (by decide +kernel)]))
theorem s_row:(wG room he ro).lookup ("row" : Str)=some (.ref ro):=by unfold wG;(repeat (first | rw [aQ] | rw [aM (by decide +kernel)] | rw [aS] | rw [aT] | rw [aD (by decide +kernel)]))
theorem ic:(wX s l now).lookup ("shows" : Str)=some (.ref s):=by unfold wX;(repeat (first | rw [aQ] | rw [aM (by decide +kernel)] | rw [aS] | rw [aT] | rw [aD (by decide +kernel)]))
theorem fi:(wX s l now).lookup ("keepings" : Str)=some (.ref l):=by unfold wX;(repeat (first | rw [aQ] | rw [aM (by decide +kernel)] | rw [aS] | rw [aT] | rw [aD (by decide +kernel)]))
theorem jA:(wX s l now).lookup ("now" : Str)=some (.int now):=by unfold wX;(repeat (first | rw [aQ] | rw [aM (by decide +kernel)] | rw [aS] | rw [aT] | rw [aD (by decide +kernel)]))
theorem lH (st:Stt) : wJ ("state" : Str) (.str st.txt) (wu i r)=wu i { r with st:=st }:=by unfold wu;(repeat (first | rw [aQ] | rw [aM (by decide +kernel)] | rw [aS] | rw [aT] | rw [aD (by decide +kernel)]))
theorem vG (m:Int) : wJ ("many" : Str) (.int m) (wu i r)=wu i { r with many:=m }:=by unfold wu;(repeat (first | rw [aQ] | rw [aM (by decide +kernel)] | rw [aS] | rw [aT] | rw [aD (by decide +kernel)]))
theorem vH (m:Nat) : wJ ("show" : Str) (.int (m:Nat)) (wu i r)=wu i { r with shw:=m }:=by unfold wu;(repeat (first | rw [aQ] | rw [aM (by decide +kernel)] | rw [aS] | rw [aT] | rw [aD (by decide +kernel)]))
theorem p_who (x:Str) : wJ ("who" : Str) (.str x) (wu i r)=wu i { r with who:=x }:=by unfold wu;(repeat (first | rw [aQ] | rw [aM (by decide +kernel)] | rw [aS] | rw [aT] | rw [aD (by decide +kernel)]))
theorem p_row (z:Addr) : wJ ("row" : Str) (.ref z) (wG room he ro)=wG room he z:=by unfold wG;(repeat (first | rw [aQ] | rw [aM (by decide +kernel)] | rw [aS] | rw [aT] | rw [aD (by decide +kernel)]))
theorem u9 (t:Int) : wJ ("now" : Str) (.int t) (wX s l now)=wX s l t:=by unfold wX;(repeat (first | rw [aQ] | rw [aM (by decide +kernel)] | rw [aS] | rw [aT] | rw [aD (by decide +kernel)]))
end
def rfq (q:Nat→Addr) (is:List Nat) : List V:=is.map fun i=>V.ref (q i)
structure Yd (T:Cs) (H:Hp) (y:Addr) (a:YAd) (b:vY) (hr:Nat→List Nat) : Prop where
 yard:H y=some (.ins T.Y a.dy (wX (a.c 0) (a.c 1) b.now))
 shows:H (a.c 0)=some (.lst (rfq a.p (List.range b.rooms.length)))
 keeps:H (a.c 1)=some (.lst (rfq a.q (List.range b.all.length)))
 shw:∀ j,j<b.rooms.length→H (a.p j)=some (.ins T.S (a.pd j) (wG (b.rooms.getD j 0) (a.c (2*j+2)) (a.c (2*j+3))))
 here:∀ j,j<b.rooms.length→H (a.c (2*j+2))=some (.lst (rfq a.q (hr j)))
 row:∀ j,j<b.rooms.length→H (a.c (2*j+3))=some (.lst (rfq a.q (b.rows.getD j [])))
 kp:∀ i,i<b.all.length→H (a.q i)=some (.ins T.K (a.qd i) (wu i (b.at i)))
 ci:∀ i k,i<2*b.rooms.length+2→k<2*b.rooms.length+2→a.c i=a.c k→i=k
 pi:∀ j k,j<b.rooms.length→k<b.rooms.length→a.p j=a.p k→j=k
 one:b.rooms.length=b.rows.length
 yk:T.Y≠T.K
 ys:T.Y≠T.S
 sk:T.S≠T.K
def wF (y:Addr) (a:YAd) (m n:Nat) : List Addr:=y::(refsA a.c (2*m+2)++refsA a.p m++refsA a.q n)
where refsA (f:Nat→Addr) (n:Nat) : List Addr:=(List.range n).map f
theorem aW {y x:Addr} {a:YAd} {m n:Nat} : x∈wF y a m n↔x=y∨(∃ i,i<2*m+2∧x=a.c i)∨(∃ j,j<m∧x=a.p j)∨∃ i,i<n∧x=a.q i:=by
 unfold wF wF.refsA
 simp only [List.mem_cons,Y1,Yj,Y3,or_assoc]
 constructor
 ·rintro (h | ⟨i,h,rfl⟩ | ⟨i,h,rfl⟩ | ⟨i,h,rfl⟩)
  ·exact .inl h
  ·exact .inr (.inl ⟨i,h,rfl⟩)
  ·exact .inr (.inr (.inl ⟨i,h,rfl⟩))
  ·exact .inr (.inr (.inr ⟨i,h,rfl⟩))
 ·rintro (h | ⟨i,h,rfl⟩ | ⟨i,h,rfl⟩ | ⟨i,h,rfl⟩)
  ·exact .inl h
  ·exact .inr (.inl ⟨i,h,rfl⟩)
  ·exact .inr (.inr (.inl ⟨i,h,rfl⟩))
  ·exact .inr (.inr (.inr ⟨i,h,rfl⟩))
section
variable {T:Cs} {H H':Hp} {y:Addr} {a:YAd} {b:vY} {hr:Nat→List Nat}
theorem Yd.same (P:Yd T H y a b hr) (g:wm H H') : Yd T H' y a b hr :=
 ⟨g _ _ P.yard,g _ _ P.shows,g _ _ P.keeps,fun j h=>g _ _ (P.shw j h),fun j h=>g _ _ (P.here j h),fun j h=>g _ _ (P.row j h),fun i h=>g _ _ (P.kp i h),P.ci,P.pi,P.one,P.yk,P.ys,P.sk⟩
theorem Yd.lst (P:Yd T H y a b hr) {i:Nat} (h:i<2*b.rooms.length+2) : ∃ xs,H (a.c i)=some (.lst xs):=by
 by_cases e0:i=0
 ·subst e0;exact ⟨_,P.shows⟩
 by_cases e1:i=1
 ·subst e1;exact ⟨_,P.keeps⟩
 by_cases e2:i % 2=0
 ·have e:i=2*((i-2) / 2)+2:=by omega
  rw [e]
  exact ⟨_,P.here _ (by omega)⟩
 ·have e:i=2*((i-3) / 2)+3:=by omega
  rw [e]
  exact ⟨_,P.row _ (by omega)⟩
theorem Yd.there (P:Yd T H y a b hr) {x:Addr} (h:x∈wF y a b.rooms.length b.all.length) : ∃ o,H x=some o:=by
 rcases aW.mp h with rfl | ⟨i,hi,rfl⟩ | ⟨j,hj,rfl⟩ | ⟨i,hi,rfl⟩
 ·exact ⟨_,P.yard⟩
 ·obtain ⟨xs,e⟩:=P.lst hi
  exact ⟨_,e⟩
 ·exact ⟨_,P.shw j hj⟩
 ·exact ⟨_,P.kp i hi⟩
theorem Yd.qinj (P:Yd T H y a b hr) {i k:Nat} (hi:i<b.all.length) (hk:k<b.all.length) (e:a.q i=a.q k) : i=k:=by
 have h1:=P.kp i hi
 have h2:=P.kp k hk
 rw [e,h2] at h1
 injection h1 with h1
 injection h1 with _ _ h1
 unfold wu at h1
 injection h1 with h1
 injection h1 with _ h1
 injection h1 with h1
 omega
theorem Yd.zD (P:Yd T H y a b hr) {i:Nat} (hi:i<b.all.length) (r:Rec) : Yd T (upd H (a.q i) (.ins T.K (a.qd i) (wu i r))) y a { b with all:=b.all.set i r } hr:=by
 have hq:=P.kp i hi
 have nl:∀ {x:Addr} {xs:List V},H x=some (.lst xs)→x≠a.q i:=fun h=>bS h hq (by intro z;cases z)
 have el:(b.all.set i r).length=b.all.length:=Jt ..
 refine ⟨by rw [ao (bS P.yard hq fun z=>by injection z with z;exact P.yk z)];exact P.yard,by rw [ao (nl P.shows)];exact P.shows,by rw [ao (nl P.keeps)];show _=some (HO.lst (rfq a.q (List.range (b.all.set i r).length)));rw [el];exact P.keeps,
  fun j h=>by rw [ao (bS (P.shw j h) hq fun z=>by injection z with z;exact P.sk z)];exact P.shw j h,fun j h=>by rw [ao (nl (P.here j h))];exact P.here j h,fun j h=>by rw [ao (nl (P.row j h))];exact P.row j h,fun k hk=>?_,P.ci,P.pi,P.one,P.yk,P.ys,P.sk⟩
 have hk':k<b.all.length:=by rw [← el];exact hk
 have ea:vY.at { b with all:=b.all.set i r } k=if k=i then r else b.at k:=bI hi
 rw [ea]
 by_cases e:k=i
 ·subst e
  rw [J3 rfl]
  exact af
 ·rw [J0 e,ao fun z=>e (P.qinj hk' hi z)]
  exact P.kp k hk'
theorem Yd.Av (P:Yd T H y a b hr) {j:Nat} (hj:j<b.rooms.length) (is:List Nat) : Yd T (upd H (a.c (2*j+2)) (.lst (rfq a.q is))) y a b (fun k=>if k=j then is else hr k):=by
 have hh:=P.here j hj
 have ni:∀ {x C d:Addr} {fs:List (Str × V)},H x=some (.ins C d fs)→x≠a.c (2*j+2):=fun h=>bS h hh (by intro z;cases z)
 have nc:∀ i,i<2*b.rooms.length+2→i≠2*j+2→a.c i≠a.c (2*j+2):=fun i h n z=>n (P.ci _ _ h (by omega) z)
 refine ⟨by rw [ao (ni P.yard)];exact P.yard,by rw [ao (nc 0 (by omega) (by omega))];exact P.shows,by rw [ao (nc 1 (by omega) (by omega))];exact P.keeps,fun k h=>by rw [ao (ni (P.shw k h))];exact P.shw k h,fun k h=>?_,
  fun k h=>by rw [ao (nc _ (by omega) (by omega))];exact P.row k h,fun i h=>by rw [ao (ni (P.kp i h))];exact P.kp i h,P.ci,P.pi,P.one,P.yk,P.ys,P.sk⟩
 by_cases e:k=j
 ·subst e
  rw [J3 rfl]
  exact af
 ·rw [J0 e,ao (nc _ (by omega) (by omega))]
  exact P.here k h
theorem Yd.yD (P:Yd T H y a b hr) {j:Nat} (hj:j<b.rooms.length) (is:List Nat) : Yd T (upd H (a.c (2*j+3)) (.lst (rfq a.q is))) y a { b with rows:=b.rows.set j is } hr:=by
 have hh:=P.row j hj
 have ni:∀ {x C d:Addr} {fs:List (Str × V)},H x=some (.ins C d fs)→x≠a.c (2*j+3):=fun h=>bS h hh (by intro z;cases z)
 have nc:∀ i,i<2*b.rooms.length+2→i≠2*j+3→a.c i≠a.c (2*j+3):=fun i h n z=>n (P.ci _ _ h (by omega) z)
 refine ⟨by rw [ao (ni P.yard)];exact P.yard,by rw [ao (nc 0 (by omega) (by omega))];exact P.shows,by rw [ao (nc 1 (by omega) (by omega))];exact P.keeps,fun k h=>by rw [ao (ni (P.shw k h))];exact P.shw k h,fun k (h:k<b.rooms.length)=>by rw [ao (nc _ (by omega) (by omega))];exact P.here k h,
  fun k (h:k<b.rooms.length)=>?_,fun i h=>by rw [ao (ni (P.kp i h))];exact P.kp i h,P.ci,P.pi,by rw [Jt];exact P.one,P.yk,P.ys,P.sk⟩
 show _=some (HO.lst (rfq a.q ((b.rows.set j is).getD k [])))
 rw [bI (by rw [← P.one];exact hj)]
 by_cases e:k=j
 ·subst e
  rw [J3 rfl]
  exact af
 ·rw [J0 e,ao (nc _ (by omega) (by omega))]
  exact P.row k h
theorem Yd.newR (P:Yd T H y a b hr) {j:Nat} (hj:j<b.rooms.length) {z:Addr} (is:List Nat) (hz:H z=some (.lst (rfq a.q is))) (nz:∀ i,i<2*b.rooms.length+2→a.c i≠z) :
  Yd T (upd H (a.p j) (.ins T.S (a.pd j) (wG (b.rooms.getD j 0) (a.c (2*j+2)) z))) y { a with c:=fun i=>if i=2*j+3 then z else a.c i } { b with rows:=b.rows.set j is } hr:=by
 have hp:=P.shw j hj
 have nl:∀ {x:Addr} {xs:List V},H x=some (.lst xs)→x≠a.p j:=fun h=>bS h hp (by intro z;cases z)
 have c0:(0:Nat)≠2*j+3:=by omega
 have c1:(1:Nat)≠2*j+3:=by omega
 refine ⟨?_,?_,?_,fun k h=>?_,fun k h=>?_,fun k h=>?_,fun i h=>?_,fun i k hi hk e=>?_,P.pi,by rw [Jt];exact P.one,P.yk,P.ys,P.sk⟩
 ·show _=some (HO.ins T.Y a.dy (wX (if 0=2*j+3 then z else a.c 0) (if 1=2*j+3 then z else a.c 1) b.now))
  rw [J0 c0,J0 c1,ao (bS P.yard hp fun z=>by injection z with z;exact P.ys z)]
  exact P.yard
 ·show upd H _ _ (if 0=2*j+3 then z else a.c 0)=_
  rw [J0 c0,ao (nl P.shows)]
  exact P.shows
 ·show upd H _ _ (if 1=2*j+3 then z else a.c 1)=_
  rw [J0 c1,ao (nl P.keeps)]
  exact P.keeps
 ·show upd H _ _ (a.p k)=some (HO.ins T.S (a.pd k) (wG (b.rooms.getD k 0) (if 2*k+2=2*j+3 then z else a.c (2*k+2)) (if 2*k+3=2*j+3 then z else a.c (2*k+3))))
  rw [J0 (by omega)]
  by_cases e:k=j
  ·subst e
   rw [J3 rfl]
   exact af
  ·rw [J0 (by omega),ao fun w=>e (P.pi k j h hj w)]
   exact P.shw k h
 ·show upd H _ _ (if 2*k+2=2*j+3 then z else a.c (2*k+2))=_
  rw [J0 (by omega),ao (nl (P.here k h))]
  exact P.here k h
 ·show upd H _ _ (if 2*k+3=2*j+3 then z else a.c (2*k+3))=some (HO.lst (rfq a.q ((b.rows.set j is).getD k [])))
  rw [bI (by rw [← P.one];exact hj)]
  by_cases e:k=j
  ·subst e
   rw [J3 rfl,J3 rfl,ao (nl hz)]
   exact hz
  ·rw [J0 (by omega),J0 e,ao (nl (P.row k h))]
   exact P.row k h
 ·show upd H _ _ (a.q i)=_
  rw [ao (bS (P.kp i h) hp fun z=>by injection z with z;exact P.sk z.symm)]
  exact P.kp i h
 ·have e:(if i=2*j+3 then z else a.c i)=if k=2*j+3 then z else a.c k:=e
  by_cases e1:i=2*j+3 <;> by_cases e2:k=2*j+3
  ·omega
  ·rw [J3 e1,J0 e2] at e
   exact absurd e.symm (nz k hk)
  ·rw [J0 e1,J3 e2] at e
   exact absurd e (nz i hi)
  ·rw [J0 e1,J0 e2] at e
   exact P.ci i k hi hk e
theorem Yd.setN (P:Yd T H y a b hr) (t:Int) : Yd T (upd H y (.ins T.Y a.dy (wX (a.c 0) (a.c 1) t))) y a { b with now:=t } hr:=by
 have hy:=P.yard
 have nl:∀ {x:Addr} {xs:List V},H x=some (.lst xs)→x≠y:=fun h=>bS h hy (by intro z;cases z)
 exact ⟨af,by rw [ao (nl P.shows)];exact P.shows,by rw [ao (nl P.keeps)];exact P.keeps,fun j h=>by rw [ao (bS (P.shw j h) hy fun z=>by injection z with z;exact P.ys z.symm)];exact P.shw j h,fun j h=>by rw [ao (nl (P.here j h))];exact P.here j h,
  fun j h=>by rw [ao (nl (P.row j h))];exact P.row j h,fun i h=>by rw [ao (bS (P.kp i h) hy fun z=>by injection z with z;exact P.yk z.symm)];exact P.kp i h,P.ci,P.pi,P.one,P.yk,P.ys,P.sk⟩
theorem uC {q q':Nat→Addr} {is:List Nat} (h:∀ i∈is,q' i=q i) : rfq q' is=rfq q is:=by
 unfold rfq
 exact List.map_congr_left fun i m=>by rw [h i m]
theorem Yd.addK (P:Yd T H y a b hr) {z d:Addr} {r:Rec} (hz:H z=some (.ins T.K d (wu b.all.length r))) (hh:∀ j,∀ i∈hr j,i<b.all.length) (hw:∀ j,∀ i∈b.rows.getD j [],i<b.all.length) :
  Yd T (upd H (a.c 1) (.lst (rfq a.q (List.range b.all.length)++[.ref z]))) y { a with q:=fun i=>if i=b.all.length then z else a.q i,qd:=fun i=>if i=b.all.length then d else a.qd i } { b with all:=b.all++[r] } hr:=by
 have hk:=P.keeps
 have ni:∀ {x C d:Addr} {fs:List (Str × V)},H x=some (.ins C d fs)→x≠a.c 1:=fun h=>bS h hk (by intro z;cases z)
 have nc:∀ i,i<2*b.rooms.length+2→i≠1→a.c i≠a.c 1:=fun i h n z=>n (P.ci _ _ h (by omega) z)
 have ex:∀ is:List Nat,(∀ i∈is,i<b.all.length)→rfq (fun i=>if i=b.all.length then z else a.q i) is=rfq a.q is:=fun is h=>uC fun i m=>J0 (Nat.ne_of_lt (h i m))
 refine ⟨by rw [ao (ni P.yard)];exact P.yard,by rw [ao (nc 0 (by omega) (by omega))];exact P.shows,?_,fun k h=>by rw [ao (ni (P.shw k h))];exact P.shw k h,fun k (h:k<b.rooms.length)=>?_,fun k (h:k<b.rooms.length)=>?_,fun i h=>?_,P.ci,P.pi,P.one,P.yk,P.ys,P.sk⟩
 ·show upd H (a.c 1) _ (a.c 1)=some (HO.lst (rfq (fun i=>if i=b.all.length then z else a.q i) (List.range (b.all++[r]).length)))
  rw [af,Jc,Jo,List.range_succ]
  congr 2
  show _=rfq _ (List.range b.all.length++[b.all.length])
  unfold rfq
  rw [Jz]
  congr 1
  ·exact (ex _ fun i m=>Y3.mp m).symm
  ·show [V.ref z]=[V.ref (if b.all.length=b.all.length then z else _)]
   rw [J3 rfl]
 ·show upd H _ _ (a.c (2*k+2))=some (HO.lst (rfq (fun i=>if i=b.all.length then z else a.q i) (hr k)))
  rw [ex _ (hh k),ao (nc _ (by omega) (by omega))]
  exact P.here k h
 ·show upd H _ _ (a.c (2*k+3))=some (HO.lst (rfq (fun i=>if i=b.all.length then z else a.q i) (b.rows.getD k [])))
  rw [ex _ (hw k),ao (nc _ (by omega) (by omega))]
  exact P.row k h
 ·show upd H _ _ (if i=b.all.length then z else a.q i)=some (HO.ins T.K (if i=b.all.length then d else a.qd i) (wu i (vY.at { b with all:=b.all++[r] } i)))
  have hi:i<b.all.length+1:=by
   have:i<(b.all++[r]).length:=h
   rw [Jc,Jo] at this
   exact this
  have ea:vY.at { b with all:=b.all++[r] } i=if i=b.all.length then r else b.at i:=getD_snoc hi
  rw [ea]
  by_cases e:i=b.all.length
  ·rw [J3 e,J3 e,J3 e,ao (ni hz),e]
   exact hz
  ·rw [J0 e,J0 e,J0 e,ao (ni (P.kp i (by omega)))]
   exact P.kp i (by omega)
end
end Kp
namespace Kp
open PySem L2
def Rec.of (s:Nat) (r:Rec) : Int:=if r.shw=s∧r.kept=true then r.many else 0
theorem ie (s:Nat) : ∀ rs:List Rec,xh s rs=(rs.map (Rec.of s)).sum
 | []=>rfl
 | r::rs=>by
  have ih:=ie s rs
  unfold xh at ih ⊢
  rw [List.map_cons,List.sum_cons,← ih,List.filter_cons]
  unfold Rec.of
  by_cases c:r.shw=s∧r.kept=true
  ·rw [J3 c,J3 (by rw [Yb,Jx];exact c),List.map_cons,List.sum_cons]
  ·rw [J0 c,J0 (by rw [Yb,Jx];exact c),Int.zero_add]
theorem sum_set {f:Rec→Int} : ∀ {rs:List Rec} {n:Nat} {r:Rec} (h:n<rs.length),((rs.set n r).map f).sum=(rs.map f).sum-f rs[n]+f r
 | x::rs,0,r,_=>by
  show (f r::rs.map f).sum=(f x::rs.map f).sum-f x+f r
  rw [List.sum_cons,List.sum_cons]
  omega
 | x::rs,n+1,r,h=>by
  have ih:=sum_set (f:=f) (rs:=rs) (n:=n) (r:=r) (Nat.lt_of_succ_lt_succ h)
  show (f x::(rs.set n r).map f).sum=(f x::rs.map f).sum-f (rs[n]'(Nat.lt_of_succ_lt_succ h))+f r
  rw [List.sum_cons,List.sum_cons,ih]
  omega
theorem lI {b:vY} {n:Nat} (h:n<b.all.length) : b.at n=b.all[n]:=by unfold vY.at;rw [Jj,Ja h,Yi]
theorem pP {b:vY} {n s:Nat} {r:Rec} (h:n<b.all.length) : vY.spare { b with all:=b.all.set n r } s=b.spare s+(b.at n).of s-r.of s:=by
 unfold vY.spare
 show b.rooms.getD s 0-xh s (b.all.set n r)=b.rooms.getD s 0-xh s b.all+_-_
 rw [ie,ie,sum_set h,lI h]
 omega
theorem rR {l m:List Int} (h:List.Perm l m) : l.sum=m.sum:=by
 induction h with
 | nil=>rfl
 | cons x _ ih=>rw [List.sum_cons,List.sum_cons,ih]
 | swap x y l=>rw [List.sum_cons,List.sum_cons,List.sum_cons,List.sum_cons];omega
 | trans _ _ h1 h2=>exact h1.trans h2
structure wq (b:vY) (hr:Nat→List Nat) : Prop where
 nd:∀ j,(hr j).Nodup
 mem:∀ j i,i∈hr j↔i<b.all.length∧(b.at i).shw=j∧(b.at i).kept=true
def Rec.takes (r:Rec) : Int:=if r.kept=true then r.many else 0
theorem all_range (b:vY) : b.all=(List.range b.all.length).map b.at:=by
 refine List.ext_getElem (by simp) fun i h1 h2=>?_
 rw [List.getElem_map,List.getElem_range,lI h1]
theorem jB {l m:List Nat} (h1:l.Nodup) (h2:m.Nodup) (h:∀ i,i∈l↔i∈m) : List.Perm l m:=(List.perm_ext_iff_of_nodup h1 h2).mpr h
theorem sum_filter {f:Nat→Int} {p:Nat→Bool} : ∀ l:List Nat,((l.filter p).map f).sum=(l.map fun i=>if p i=true then f i else 0).sum
 | []=>rfl
 | x::l=>by
  rw [List.filter_cons,List.map_cons,List.sum_cons,← sum_filter l]
  by_cases c:p x=true
  ·rw [J3 c,J3 c,List.map_cons,List.sum_cons]
  ·rw [J0 c,J0 c,Int.zero_add]
theorem rS {b:vY} {hr:Nat→List Nat} (O:wq b hr) (j:Nat) : ((hr j).map fun i=>(b.at i).takes).sum=xh j b.all:=by
 have h2:((List.range b.all.length).filter fun i=>decide ((b.at i).shw=j) && (b.at i).kept).Nodup:=List.nodup_range.filter _
 have p:=jB (O.nd j) h2 fun i=>by rw [O.mem,Y2,Y3,Yb,Jx]
 rw [rR (p.map _),sum_filter,ie]
 conv=>rhs;rw [all_range b,List.map_map]
 congr 1
 refine List.map_congr_left fun i _=>?_
 show _=(b.at i).of j
 unfold Rec.of Rec.takes
 by_cases c:(b.at i).shw=j∧(b.at i).kept=true
 ·rw [J3 c,J3 (by rw [Yb,Jx];exact c),J3 c.2]
 ·rw [J0 c,J0 (by rw [Yb,Jx];exact c)]
def wU:Int→List Int→Nat
 | _,[]=>0
 | f,w::ws=>if f<w then 0 else wU (f-w) ws+1
def vY.holds (b:vY) (is:List Nat) : vY:=is.foldl vY.hold b
theorem fU:∀ (is:List Nat) (b:vY),(b.holds is).all.length=b.all.length
 | [],b=>rfl
 | i::is,b=>(fU is (b.hold i)).trans (fG b i)
theorem iS:∀ (is:List Nat) (b:vY),(b.holds is).rooms=b.rooms
 | [],b=>rfl
 | i::is,b=>iS is (b.hold i)
theorem kF:∀ (is:List Nat) (b:vY),(b.holds is).now=b.now
 | [],b=>rfl
 | i::is,b=>kF is (b.hold i)
theorem nH (b:vY) (is:List Nat) (i:Nat) : b.holds (is++[i])=(b.holds is).hold i:=by unfold vY.holds;rw [List.foldl_append];rfl
theorem ja {b:vY} {n:Nat} (h:n<b.all.length) (m:Nat) : (b.hold n).at m=if m=n then (b.at n).hold b.now else b.at m:=bI h
theorem kG:∀ (is:List Nat) (b:vY) (m:Nat),m∉is→(∀ i∈is,i<b.all.length)→(b.holds is).at m=b.at m
 | [],b,m,_,_=>rfl
 | i::is,b,m,h,hl=>by
  have h1:m≠i:=fun z=>h (by rw [z];exact Jb)
  show ((b.hold i).holds is).at m=_
  rw [kG is (b.hold i) m (fun z=>h (Jd _ z)) fun k z=>by rw [fG];exact hl k (Jd _ z),ja (hl i Jb),J0 h1]
theorem fJ {r:Rec} (h:r.st=.waiting) : r.kept=false:=by unfold Rec.kept;rw [h];rfl
theorem pQ (r:Rec) (t:Int) : (r.hold t).kept=true:=rfl
theorem nI {b:vY} {n s:Nat} (h:n<b.all.length) (hw:(b.at n).st=.waiting) (hs:(b.at n).shw=s) : (b.hold n).spare s=b.spare s-(b.at n).many:=by
 have e:(b.hold n).spare s=b.spare s+(b.at n).of s-((b.at n).hold b.now).of s:=pP h
 rw [e]
 have e1:(b.at n).of s=0:=J0 fun z=>by rw [fJ hw] at z;cases z.2
 have e2:((b.at n).hold b.now).of s=(b.at n).many:=J3 ⟨hs,pQ _ _⟩
 rw [e1,e2]
 omega
theorem rV (b:vY) (n:Nat) (x:List (List Nat)) : vY.hold { b with rows:=x } n={ b.hold n with rows:=x }:=rfl
theorem jC (s:Nat) : ∀ (row:List Nat) (b:vY),(∀ n∈row,n<b.all.length∧(b.at n).st=.waiting∧(b.at n).shw=s)→row.Nodup →
  vY.w6 s b row=({ b.holds (row.take (wU (b.spare s) (row.map fun n=>(b.at n).many))) with rows:=b.rows.set s (row.drop (wU (b.spare s) (row.map fun n=>(b.at n).many))) },row.take (wU (b.spare s) (row.map fun n=>(b.at n).many)))
 | [],b,_,_=>rfl
 | n::r,b,h,nd=>by
  obtain ⟨h1,h2,h3⟩:=h n Jb
  obtain ⟨n1,n2⟩:=List.nodup_cons.mp nd
  have hm:(r.map fun m=>((b.hold n).at m).many)=r.map fun m=>(b.at m).many:=List.map_congr_left fun m hm=>by
   rw [ja h1,J0 fun z=>n1 (by rw [← z];exact hm)]
  have ih:=jC s r (b.hold n) (fun m hm=>by
   have ne:m≠n:=fun z=>n1 (by rw [← z];exact hm)
   rw [fG,ja h1,J0 ne]
   exact h m (Jd _ hm)) n2
  rw [hm,nI h1 h2 h3] at ih
  unfold vY.w6
  rw [List.map_cons]
  unfold wU
  by_cases c:(b.at n).many≤b.spare s
  ·rw [J3 c,J0 (by omega),ih,List.take_succ_cons,List.drop_succ_cons]
   rfl
  ·rw [J0 c,J3 (by omega)]
   rfl
def vY.count (b:vY) (s:Nat) : Nat:=wU (b.spare s) ((b.rows.getD s []).map fun n=>(b.at n).many)
theorem rW {b:vY} (O:b.Ok) (s:Nat) : b.serve s=({ b.holds ((b.rows.getD s []).take (b.count s)) with rows:=b.rows.set s ((b.rows.getD s []).drop (b.count s)) },(b.rows.getD s []).take (b.count s)) :=
 jC s _ b (fun n hn=>O.row s n hn) (O.nd s)
theorem wq.hold {b:vY} {hr:Nat→List Nat} (O:wq b hr) {n j:Nat} (h:n<b.all.length) (hw:(b.at n).st=.waiting) (hs:(b.at n).shw=j) : wq (b.hold n) (fun k=>if k=j then hr j++[n] else hr k):=by
 have nin:n∉hr j:=fun m=>by
  have:=((O.mem j n).mp m).2.2
  rw [fJ hw] at this
  cases this
 refine ⟨fun k=>?_,fun k i=>?_⟩
 ·by_cases e:k=j
  ·rw [J3 e]
   exact List.nodup_append.mpr ⟨O.nd j,by simp,fun x hx y hy z=>nin (by rw [← Y5.mp hy,← z];exact hx)⟩
  ·rw [J0 e];exact O.nd k
 ·rw [fG,ja h]
  by_cases e:i=n
  ·subst e
   rw [J3 rfl]
   show _↔i<b.all.length∧(b.at i).shw=k∧true=true
   by_cases e2:k=j
   ·rw [J3 e2]
    exact ⟨fun _=>⟨h,hs.trans e2.symm,rfl⟩,fun _=>Yc _ (Y5.mpr rfl)⟩
   ·rw [J0 e2]
    refine ⟨fun m=>?_,fun m=>absurd (m.2.1.symm.trans hs) e2⟩
    have:=((O.mem k i).mp m).2.2
    rw [fJ hw] at this
    cases this
  ·rw [J0 e]
   by_cases e2:k=j
   ·rw [J3 e2,Y1,Y5,e2]
    exact ⟨fun m=>(O.mem j i).mp (m.elim id fun z=>absurd z e),fun m=>.inl ((O.mem j i).mpr m)⟩
   ·rw [J0 e2]
    exact O.mem k i
theorem wq.put {b:vY} {hr:Nat→List Nat} (O:wq b hr) {n:Nat} {r:Rec} (h:n<b.all.length) (hs:r.shw=(b.at n).shw) (hk:r.kept=(b.at n).kept) : wq { b with all:=b.all.set n r } hr:=by
 refine ⟨O.nd,fun j i=>?_⟩
 have ea:vY.at { b with all:=b.all.set n r } i=if i=n then r else b.at i:=bI h
 rw [ea,show ({ b with all:=b.all.set n r } : vY).all.length=b.all.length from Jt ..]
 by_cases e:i=n
 ·subst e
  rw [J3 rfl,hs,hk]
  exact O.mem j i
 ·rw [J0 e]
  exact O.mem j i
theorem wq.drop {b:vY} {hr:Nat→List Nat} (O:wq b hr) {n:Nat} {r:Rec} (h:n<b.all.length) (hk:r.kept=false) : wq { b with all:=b.all.set n r } (fun k=>if k=(b.at n).shw then (hr k).erase n else hr k):=by
 have ea:∀ i,vY.at { b with all:=b.all.set n r } i=if i=n then r else b.at i:=fun i=>bI h
 refine ⟨fun k=>?_,fun k i=>?_⟩
 ·by_cases e:k=(b.at n).shw
  ·rw [J3 e];exact (O.nd k).erase n
  ·rw [J0 e];exact O.nd k
 ·rw [ea,show ({ b with all:=b.all.set n r } : vY).all.length=b.all.length from Jt ..]
  by_cases e:i=n
  ·subst e
   rw [J3 rfl,hk]
   refine ⟨fun m=>?_,fun m=>by cases m.2.2⟩
   by_cases e2:k=(b.at i).shw
   ·rw [J3 e2] at m
    exact absurd rfl ((O.nd k).mem_erase_iff.mp m).1
   ·rw [J0 e2] at m
    exact absurd ((O.mem k i).mp m).2.1.symm e2
  ·rw [J0 e]
   by_cases e2:k=(b.at n).shw
   ·rw [J3 e2,(O.nd k).mem_erase_iff]
    exact ⟨fun m=>(O.mem k i).mp m.2,fun m=>⟨e,(O.mem k i).mpr m⟩⟩
   ·rw [J0 e2]
    exact O.mem k i
theorem wq.rows {b:vY} {hr:Nat→List Nat} (O:wq b hr) (x:List (List Nat)) : wq { b with rows:=x } hr:=⟨O.nd,O.mem⟩
theorem wq.now {b:vY} {hr:Nat→List Nat} (O:wq b hr) (t:Int) : wq { b with now:=t } hr:=⟨O.nd,O.mem⟩
theorem wq.lt {b:vY} {hr:Nat→List Nat} (O:wq b hr) : ∀ j,∀ i∈hr j,i<b.all.length:=fun j i m=>((O.mem j i).mp m).1
theorem wq.add {b:vY} {hr:Nat→List Nat} (O:wq b hr) {r:Rec} (hw:r.st=.waiting) : wq { b with all:=b.all++[r] } hr:=by
 refine ⟨O.nd,fun j i=>?_⟩
 have el:({ b with all:=b.all++[r] } : vY).all.length=b.all.length+1:=by show (b.all++[r]).length=_;rw [Jc,Jo]
 rw [el]
 constructor
 ·intro m
  obtain ⟨h1,h2⟩:=(O.mem j i).mp m
  have ea:vY.at { b with all:=b.all++[r] } i=if i=b.all.length then r else b.at i:=getD_snoc (by omega)
  rw [ea,J0 (by omega)]
  exact ⟨by omega,h2⟩
 ·rintro ⟨h1,h2⟩
  have ea:vY.at { b with all:=b.all++[r] } i=if i=b.all.length then r else b.at i:=getD_snoc h1
  rw [ea] at h2
  by_cases e:i=b.all.length
  ·rw [J3 e,fJ hw] at h2
   cases h2.2
  ·rw [J0 e] at h2
   exact (O.mem j i).mpr ⟨by omega,h2⟩
theorem wq.move {b:vY} {hr:Nat→List Nat} (O:wq b hr) {n s:Nat} (h:n<b.all.length) (hk:(b.at n).kept=true) (ne:(b.at n).shw≠s) :
  wq { b with all:=b.all.set n { b.at n with shw:=s } } (fun k=>if k=s then hr s++[n] else if k=(b.at n).shw then (hr k).erase n else hr k):=by
 have ea:∀ i,vY.at { b with all:=b.all.set n { b.at n with shw:=s } } i=if i=n then { b.at n with shw:=s } else b.at i:=fun i=>bI h
 have nin:n∉hr s:=fun m=>ne ((O.mem s n).mp m).2.1
 refine ⟨fun k=>?_,fun k i=>?_⟩
 ·by_cases e:k=s
  ·rw [J3 e]
   exact List.nodup_append.mpr ⟨O.nd s,by simp,fun x hx y hy z=>nin (by rw [← Y5.mp hy,← z];exact hx)⟩
  ·rw [J0 e]
   by_cases e2:k=(b.at n).shw
   ·rw [J3 e2];exact (O.nd k).erase n
   ·rw [J0 e2];exact O.nd k
 ·rw [ea,show ({ b with all:=b.all.set n { b.at n with shw:=s } } : vY).all.length=b.all.length from Jt ..]
  by_cases e:i=n
  ·subst e
   rw [J3 rfl]
   show _↔i<b.all.length∧s=k∧(b.at i).kept=true
   by_cases e2:k=s
   ·rw [J3 e2]
    exact ⟨fun _=>⟨h,e2.symm,hk⟩,fun _=>Yc _ (Y5.mpr rfl)⟩
   ·rw [J0 e2]
    refine ⟨fun m=>?_,fun m=>absurd m.2.1.symm e2⟩
    by_cases e3:k=(b.at i).shw
    ·rw [J3 e3] at m
     exact absurd rfl ((O.nd k).mem_erase_iff.mp m).1
    ·rw [J0 e3] at m
     exact absurd ((O.mem k i).mp m).2.1.symm e3
  ·rw [J0 e]
   by_cases e2:k=s
   ·rw [J3 e2,Y1,Y5,e2]
    exact ⟨fun m=>(O.mem s i).mp (m.elim id fun z=>absurd z e),fun m=>.inl ((O.mem s i).mpr m)⟩
   ·rw [J0 e2]
    by_cases e3:k=(b.at n).shw
    ·rw [J3 e3,(O.nd k).mem_erase_iff]
     exact ⟨fun m=>(O.mem k i).mp m.2,fun m=>⟨e,(O.mem k i).mpr m⟩⟩
    ·rw [J0 e3]
     exact O.mem k i
end Kp
namespace Kp
open PySem L2
structure wk (T:Cs) (H:Hp) (y:Addr) (a:YAd) (b:vY) (H':Hp) (a':YAd) (b':vY) (hr':Nat→List Nat) : Prop where
 pic:Yd T H' y a' b' hr'
 keep:wH (wF y a b.rooms.length b.all.length) H H'
 ext:Ext H (wF y a b.rooms.length b.all.length) (wF y a' b'.rooms.length b'.all.length)
 there:∀ x o,H x=some o→∃ o',H' x=some o'
section
variable {T:Cs} {H H1 H2:Hp} {y:Addr} {a a1 a2:YAd} {b b1 b2:vY} {hr hr1 hr2:Nat→List Nat}
theorem wk.refl (P:Yd T H y a b hr) : wk T H y a b H a b hr:=⟨P,wH.refl,Ext.refl,fun _ o h=>⟨o,h⟩⟩
theorem wk.trans (A:wk T H y a b H1 a1 b1 hr1) (B:wk T H1 y a1 b1 H2 a2 b2 hr2) : wk T H y a b H2 a2 b2 hr2 :=
 ⟨B.pic,A.keep.trans A.ext B.keep,Ext.trans A.keep A.ext B.ext,fun x o h=>let ⟨o1,h1⟩:=A.there x o h;B.there x o1 h1⟩
theorem wk.same (A:wk T H y a b H1 a1 b1 hr1) (g:wm H1 H2) : wk T H y a b H2 a1 b1 hr1:=⟨A.pic.same g,A.keep.same g,A.ext,fun x o h=>let ⟨o1,h1⟩:=A.there x o h;⟨o1,g _ _ h1⟩⟩
theorem wk.back (A:wk T H y a b H1 a1 b1 hr1) {l:Addr} (h:H1 l=none) : H l=none:=by
 cases q:H l with
 | none=>rfl
 | some o =>
  obtain ⟨o1,z⟩:=A.there l o q
  rw [h] at z
  cases z
theorem c9 {H H1:Hp} (t:∀ x o,H x=some o→∃ o',H1 x=some o') (p:Addr) (u:HO) : ∀ x o,H x=some o→∃ o',upd H1 p u x=some o':=fun x o h=>by
 by_cases e:x=p
 ·subst e
  exact ⟨u,af⟩
 ·rw [ao e]
  exact t x o h
theorem wk.zD (A:wk T H y a b H1 a1 b1 hr1) {i:Nat} (hi:i<b1.all.length) (r:Rec) : wk T H y a b (upd H1 (a1.q i) (.ins T.K (a1.qd i) (wu i r))) a1 { b1 with all:=b1.all.set i r } hr1 :=
 ⟨A.pic.zD hi r,A.keep.put (A.ext _ (aW.mpr (.inr (.inr (.inr ⟨i,hi,rfl⟩))))) _,by show Ext H _ (wF y a1 b1.rooms.length (b1.all.set i r).length);rw [Jt];exact A.ext,c9 A.there _ _⟩
theorem wk.Av (A:wk T H y a b H1 a1 b1 hr1) {j:Nat} (hj:j<b1.rooms.length) (is:List Nat) : wk T H y a b (upd H1 (a1.c (2*j+2)) (.lst (rfq a1.q is))) a1 b1 (fun k=>if k=j then is else hr1 k) :=
 ⟨A.pic.Av hj is,A.keep.put (A.ext _ (aW.mpr (.inr (.inl ⟨2*j+2,by omega,rfl⟩)))) _,A.ext,c9 A.there _ _⟩
theorem wk.yD (A:wk T H y a b H1 a1 b1 hr1) {j:Nat} (hj:j<b1.rooms.length) (is:List Nat) : wk T H y a b (upd H1 (a1.c (2*j+3)) (.lst (rfq a1.q is))) a1 { b1 with rows:=b1.rows.set j is } hr1 :=
 ⟨A.pic.yD hj is,A.keep.put (A.ext _ (aW.mpr (.inr (.inl ⟨2*j+3,by omega,rfl⟩)))) _,A.ext,c9 A.there _ _⟩
theorem wk.setN (A:wk T H y a b H1 a1 b1 hr1) (t:Int) : wk T H y a b (upd H1 y (.ins T.Y a1.dy (wX (a1.c 0) (a1.c 1) t))) a1 { b1 with now:=t } hr1 :=
 ⟨A.pic.setN t,A.keep.put (A.ext _ (aW.mpr (.inl rfl))) _,A.ext,c9 A.there _ _⟩
theorem Yd.nlst (P:Yd T H y a b hr) {z:Addr} (h:H z=none) : ∀ i,i<2*b.rooms.length+2→a.c i≠z:=fun i hi e=>by
 obtain ⟨xs,g⟩:=P.lst hi
 rw [e,h] at g
 cases g
theorem wk.newR (A:wk T H y a b H1 a1 b1 hr1) {j:Nat} (hj:j<b1.rooms.length) {z:Addr} (is:List Nat) (hz:H1 z=some (.lst (rfq a1.q is))) (nz:∀ i,i<2*b1.rooms.length+2→a1.c i≠z) (hn:H z=none) :
  wk T H y a b (upd H1 (a1.p j) (.ins T.S (a1.pd j) (wG (b1.rooms.getD j 0) (a1.c (2*j+2)) z))) { a1 with c:=fun i=>if i=2*j+3 then z else a1.c i } { b1 with rows:=b1.rows.set j is } hr1:=by
 refine ⟨A.pic.newR hj is hz nz,A.keep.put (A.ext _ (aW.mpr (.inr (.inr (.inl ⟨j,hj,rfl⟩))))) _,fun x m=>?_,c9 A.there _ _⟩
 rcases aW.mp m with rfl | ⟨i,hi,rfl⟩ | ⟨k,hk,rfl⟩ | ⟨i,hi,rfl⟩
 ·exact A.ext _ (aW.mpr (.inl rfl))
 ·show (if i=2*j+3 then z else a1.c i)∈_∨_
  by_cases e:i=2*j+3
  ·right
   show H (if i=2*j+3 then z else a1.c i)=none
   rw [J3 e]
   exact hn
  ·show _∨H (if i=2*j+3 then z else a1.c i)=none
   rw [J0 e]
   exact A.ext _ (aW.mpr (.inr (.inl ⟨i,hi,rfl⟩)))
 ·exact A.ext _ (aW.mpr (.inr (.inr (.inl ⟨k,hk,rfl⟩))))
 ·exact A.ext _ (aW.mpr (.inr (.inr (.inr ⟨i,hi,rfl⟩))))
theorem wk.addK (A:wk T H y a b H1 a1 b1 hr1) {z d:Addr} {r:Rec} (hz:H1 z=some (.ins T.K d (wu b1.all.length r))) (hn:H z=none) (hh:∀ j,∀ i∈hr1 j,i<b1.all.length) (hw:∀ j,∀ i∈b1.rows.getD j [],i<b1.all.length) :
  wk T H y a b (upd H1 (a1.c 1) (.lst (rfq a1.q (List.range b1.all.length)++[.ref z]))) { a1 with q:=fun i=>if i=b1.all.length then z else a1.q i,qd:=fun i=>if i=b1.all.length then d else a1.qd i } { b1 with all:=b1.all++[r] } hr1:=by
 refine ⟨A.pic.addK hz hh hw,A.keep.put (A.ext _ (aW.mpr (.inr (.inl ⟨1,by omega,rfl⟩)))) _,fun x m=>?_,c9 A.there _ _⟩
 rcases aW.mp m with rfl | ⟨i,hi,rfl⟩ | ⟨k,hk,rfl⟩ | ⟨i,hi,rfl⟩
 ·exact A.ext _ (aW.mpr (.inl rfl))
 ·exact A.ext _ (aW.mpr (.inr (.inl ⟨i,hi,rfl⟩)))
 ·exact A.ext _ (aW.mpr (.inr (.inr (.inl ⟨k,hk,rfl⟩))))
 ·have hi':i<b1.all.length+1:=by
   have:i<(b1.all++[r]).length:=hi
   rw [Jc,Jo] at this
   exact this
  by_cases e:i=b1.all.length
  ·right
   show H (if i=b1.all.length then z else a1.q i)=none
   rw [J3 e]
   exact hn
  ·show (if i=b1.all.length then z else a1.q i)∈_∨H (if i=b1.all.length then z else a1.q i)=none
   rw [J0 e]
   exact A.ext _ (aW.mpr (.inr (.inr (.inr ⟨i,by omega,rfl⟩))))
theorem Yd.new (P:Yd T H y a b hr) {l:Addr} (h:H l=none) : l∉wF y a b.rooms.length b.all.length:=fun m=>by
 obtain ⟨o,e⟩:=P.there m
 rw [h] at e
 cases e
end
def DealY (T:Cs) (H:Hp) (y:Addr) (a:YAd) (b:vY) (r:vY × Dt) (Q:VK) : Prop:=∀ (H':Hp) (a':YAd) (hr':Nat→List Nat) (v:V),wk T H y a b H' a' r.1 hr'→wq r.1 hr'→Rep (wF y a' r.1.rooms.length r.1.all.length) H' r.2 v→yC H v→Q v H'
def yj (T:Cs) (H:Hp) (y:Addr) (a:YAd) (b:vY) (r:vY × Dt) (Q:VK) (E:XK) : Prop:=DealY T H y a b r Q∧∀ t,r=(b,.str t)→yE H t E
theorem pR {l:List Nat} {n:Nat} (h:l.Nodup) (hl:∀ i∈l,i<n) : l.length≤n:=by
 have p:List.Perm l ((List.range n).filter fun i=>decide (i∈l)):=jB h (List.nodup_range.filter _) fun i=>by
  rw [Y2,Y3,Jx]
  exact ⟨fun m=>⟨hl i m,m⟩,fun m=>m.2⟩
 rw [p.length_eq]
 exact Ju (List.length_filter_le _ _) (by rw [Yh];exact Jm _)
theorem wq.len {b:vY} {hr:Nat→List Nat} (O:wq b hr) (j:Nat) : (hr j).length≤b.all.length:=pR (O.nd j) (O.lt j)
theorem vI {q:Nat→Addr} {is:List Nat} {k i:Nat} (h:is[k]? = some i) : (rfq q is)[k]? = some (.ref (q i)):=by
 unfold rfq
 rw [Jw,h]
 rfl
theorem fj {q:Nat→Addr} {is:List Nat} {k:Nat} {x:V} (h:(rfq q is)[k]? = some x) : ∃ i,is[k]? = some i∧x=.ref (q i):=by
 unfold rfq at h
 rw [Jw] at h
 cases e:is[k]? with
 | none=>rw [e] at h;cases h
 | some i=>rw [e] at h;exact ⟨i,rfl,(Option.some.inj h).symm⟩
theorem bR (q:Nat→Addr) (is:List Nat) : (rfq q is).length=is.length:=by unfold rfq;rw [J9]
theorem bp {α:Type} {l:List α} {i:Nat} {x : α} (h:l[i]? = some x) : l.take (i+1)=l.take i++[x]:=by rw [List.take_add_one,h,Option.toList_some]
end Kp
namespace Kp
open PySem L2
def top (i:Nat) : Stmt:=PySem.Challenge.pw_keepyard_k06_whole_by_and_by.main.body.getD i (.Pass ⟨0,0,0,0⟩)
abbrev yF:Stmt:=top 31
abbrev y4:Stmt:=top 32
abbrev sAt:Stmt:=top 33
abbrev y6:Stmt:=top 34
abbrev y8:Stmt:=top 35
abbrev yu:Stmt:=top 36
abbrev y9:Stmt:=top 37
abbrev za:Stmt:=top 38
abbrev x6:Stmt:=top 39
abbrev xP:Stmt:=top 40
abbrev zE:Stmt:=top 41
abbrev xX:Stmt:=top 42
abbrev zb:Stmt:=top 43
abbrev xY:Stmt:=top 44
abbrev zc:Stmt:=top 45
abbrev Ae:Stmt:=top 46
abbrev sLaw:Stmt:=top 49
structure Blt (mg:Str→Option Value) : Prop where
 list:mg "list" = none
 tuple:mg "tuple" = none
 int:mg "int" = none
 str:mg "str" = none
 bool:mg "bool" = none
 isinstance:mg "isinstance" = none
 len:mg "len" = none
 range:mg "range" = none
 min:mg "min" = none
 sorted:mg "sorted" = none
theorem pickI (b:Bool) (x y:Int) : atI [V.int x,V.int y] (if b=true then 1 else 0)=some (.int (if b=true then y else x)):=by cases b <;> rfl
theorem at0 {α:Type} {x : α} {xs:List α} : atI (x::xs) 0=some x:=cU (j:=0) rfl
theorem eA {ns:List Int} {i:Nat} (h:i<ns.length) : atI (ns.map V.int) ((i:Nat) : Int)=some (.int ns[i]):=cU (by rw [Jw,Ja h,Option.map_some])
theorem bG {xs:List Addr} {i:Nat} {p:Addr} (h:xs[i]? = some p) : atI (xs.map V.ref) ((i:Nat) : Int)=some (.ref p):=cU (by rw [Jw,h,Option.map_some])
theorem wz {P:Hp→Prop} {H H':Hp} (e:H=H') (h:P H') : P H:=by subst e;exact h
def zd (K:Ay) : Sp:=fun vs H Q _=>∃ (a:Addr) (m b:Int) (ns:List Int),vs=[.ref a,.int m,.int b]∧SqL K H a (ns.map V.int)∧ns.length≤63∧Q (.int m) H
def Af:Sp:=fun vs H Q _=>∃ i:Int,vs=[.int i]∧Q (.bl true) H
def spAt (K:Ay) : Sp:=fun vs H Q _=>∃ (a:Addr) (k:Int) (ns:List Int),vs=[.ref a,.int k]∧SqL K H a (ns.map V.int)∧0≤k∧Q (.int (ns.getD k.toNat 0)) H
def xZ:Sp:=fun vs H Q _=>∃ (d:Addr) (a:Adr) (b:vY) (s:Nat),vs=[.ref d,.int (s:Nat)]∧Pic H d a b∧s<b.rooms.length∧∀ H',wm H H'→Q (.int (b.spare s)) H'
def xF:Sp:=fun vs H Q _=>∃ (d:Addr) (a:Adr) (b:vY) (s:Nat),vs=[.ref d,.int (s:Nat)]∧Pic H d a b∧s<b.rooms.length∧(∀ n∈b.rows.getD s [],n<b.all.length)∧(b.rows.getD s []).length≤1000 ∧
 ∀ H' l,After H d a H' a (b.serve s).1→H' l=some (.lst ((b.serve s).2.map nv))→H l=none→Q (.ref l) H'
section
variable {P:Program} {w:World} {K:Ay} {mg:Str→Option Value} {base:Heap}
theorem rX:PySem.W.kitOne K (.type "int") (.type "bool")=some false:=by kernel_rfl
theorem pS:PySem.W.kitOne K (.type "int") (.type "int")=some true:=by kernel_rfl
theorem jV:wb ["_law_script","_law_most","_law_bound"] ["_law_script","_law_most","_law_bound"] (vZ yF):=L2.wy rfl rfl rfl rfl (by decide +kernel)
theorem mE {f:Addr} {fd:FuncData} (F:Fun K "_law_reach" "_law_reach" yF f fd) (T:Blt mg) : we P w K mg base CX0 1 f fd ["_law_script","_law_most","_law_bound"] (zd K):=by
 refine F.ok jV (fun vs H Q E h=>?_) (fun cdv A outer s H vs Q E hr h=>?_)
 ·obtain ⟨a,m,b,ns,rfl,_⟩:=h
  rfl
 obtain ⟨a,m,b,ns,rfl,hS,hl,k⟩:=h
 refine ⟨_,    (ae
 (aH (au fW (aJ aG rfl T.len bF (aa (pv 0) aj)) ag (wa _))
 (ak
 (aA (pv 2)))
 aB)
 (ak
 (aA (pv 1)))),?_⟩
 exact ⟨_,rfl,a,_,rfl,.inl hS,_,_,rfl,rfl,_,rfl,ifF (Js (by rw [J9];omega)) ⟨_,rfl,k⟩⟩
theorem jW:wb ["_law_found"] ["_law_found"] (vZ y4):=L2.wy rfl rfl rfl rfl (by decide +kernel)
theorem rY {f:Addr} {fd:FuncData} (F:Fun K "_law_whole" "_law_whole" y4 f fd) (T:Blt mg) : we P w K mg base CX0 1 f fd ["_law_found"] Af:=by
 refine F.ok jW (fun vs H Q E h=>?_) (fun cdv A outer s H vs Q E hr h=>?_)
 ·obtain ⟨i,rfl,_⟩:=h
  rfl
 obtain ⟨i,rfl,k⟩:=h
 refine ⟨_,    (ak
 (aA (qw (aJ b9 rfl T.isinstance br (aa (pv 0) (aa (fz rfl T.int iD) aj))) (qv (vh (aJ b9 rfl T.isinstance br (aa (pv 0) (aa (fz rfl T.bool um) aj)))))))),?_⟩
 refine ⟨_,rfl,_,_,_,true,rfl,.int i,.one pS,true,rfl,xq ?_⟩
 exact ⟨_,rfl,_,_,_,false,rfl,.int i,.one rX,false,rfl,k⟩
theorem nJ:wb ["_law_script","_law_k"] ["_law_script","_law_k"] (vZ sAt):=L2.wy rfl rfl rfl rfl (by decide +kernel)
theorem ok_at {f:Addr} {fd:FuncData} (F:Fun K "_law_at" "_law_at" sAt f fd) (T:Blt mg) : we P w K mg base CX0 1 f fd ["_law_script","_law_k"] (spAt K):=by
 refine F.ok nJ (fun vs H Q E h=>?_) (fun cdv A outer s H vs Q E hr h=>?_)
 ·obtain ⟨a,i,ns,rfl,_⟩:=h
  rfl
 obtain ⟨a,i,ns,rfl,hS,h0,k⟩:=h
 refine ⟨_,    (ae
 (aH (au cP (pv 1) (aJ aG rfl T.len bF (aa (pv 0) aj)) (wa _))
 (ak
 (aA (ax av (pv 0) (pv 1) (fun _ _=>rfl))))
 aB)
 (ak
 (aA ag))),?_⟩
 refine ⟨_,rfl,_,rfl,a,_,rfl,.inl hS,_,_,rfl,rfl,_,rfl,?_⟩
 have hl:(ns.map V.int).length=ns.length:=J9 _
 refine wx (fun g=>?_) (fun g=>?_)
 ·have g':i<(((ns.map V.int).length:Nat) : Int):=Ji g
  rw [hl] at g'
  have hi:i.toNat<ns.length:=by omega
  have e:ns.getD i.toNat 0=ns[i.toNat]:=by rw [Jj,Ja hi,Yi]
  have q:=eA hi
  rw [show ((i.toNat:Nat) : Int)=i by omega] at q
  rw [e] at k
  exact ⟨_,rfl,_,rfl,a,_,_,_,rfl,rfl,hS,q,k⟩
 ·have g':¬ i<(((ns.map V.int).length:Nat) : Int):=fun q=>g (Je q)
  rw [hl] at g'
  have e:ns.getD i.toNat 0=0:=by rw [Jj,List.getElem?_eq_none (by omega),Option.getD_none]
  rw [e] at k
  exact k
theorem mF (s:Nat) (rs:List Rec) (r:Rec) : xh s (rs++[r])=xh s rs+(if (decide (r.shw=s) && r.kept)=true then r.many else 0):=by
 unfold xh
 rw [List.filter_append,Jz,List.sum_append]
 by_cases c:(decide (r.shw=s) && r.kept)=true
 ·rw [J3 c,List.filter_cons,J3 c]
  simp
 ·rw [J0 c,List.filter_cons,J0 c]
  simp
theorem uD (r:Rec) : inV (.str r.st.txt) [V.str "held",V.str "taken"]=r.kept:=by
 unfold Rec.kept
 cases r.st <;> decide +kernel
theorem vJ (r:Rec) (s:Nat) : decide (V.int (r.shw:Nat)=V.int (s:Nat))=decide (r.shw=s):=by
 rw [decide_eq_decide]
 constructor
 ·intro h
  injection h with h
  omega
 ·rintro rfl
  rfl
theorem dj:wb ["_law_state","_law_show","_law_left","_law_one"] ["_law_state","_law_show"] (vZ x6):=L2.wy rfl rfl rfl rfl (by decide +kernel)
theorem mG {f:Addr} {fd:FuncData} (F:Fun K "_law_spare" "_law_spare" x6 f fd) (T:Blt mg) : we P w K mg base CX0 1 f fd ["_law_state","_law_show"] xZ:=by
 refine F.ok dj (fun vs H Q E h=>?_) (fun cdv A outer s H vs Q E hr h=>?_)
 ·obtain ⟨d,a,b,n,rfl,_⟩:=h
  rfl
 obtain ⟨d,a,b,n,rfl,p,hn,k⟩:=h
 refine ⟨_,    (ae
 (aC (i:=2) dj.nd rfl (Or.inl rfl) (ax av (a8 (bM hr) (pv 0) ay (fun _ _=>rfl)) (pv 1) (fun _ _=>rfl)))
 (ae
 (bU PassesOwn.never rfl (bC (a8 (bM hr) (pv 0) ay (fun _ _=>rfl))) (aO (i:=3) dj.nd rfl (Or.inl rfl))
 (ak
 (aH (PW.pt (iB (au bb (ax av (pv 3) ag (fun _ _=>rfl)) (pv 1) (wa _)) (fS (au j9 (ax av (pv 3) ag (fun _ _=>rfl)) (a0 (aa ay (aa ay aj))) (by with_unfolding_all rfl)))))
 (ak
 (aC (i:=2) dj.nd rfl (Or.inl rfl) (az cC (pv 2) (ax av (pv 3) ag (fun _ _=>rfl)))))
 aB)))
 (ak
 (aA (pv 2))))),?_⟩
 have er:b.rooms.getD n 0=b.rooms[n]:=by rw [Jj,Ja hn,Yi]
 refine ⟨_,rfl,d,_,rfl,p.gR,_,rfl,a.R,_,_,_,rfl,rfl,SqL.of p.rooms,eA hn,?_⟩
 refine ⟨_,rfl,d,_,rfl,p.gA,a.A,rfl,⟨_,SqL.of p.all⟩,bZ (K:=K) (a:=a.A) (xs:=a.recs.map V.ref) (fun i σ H2=>∃ v:Option V,σ=[some (.ref d),some (.int (n:Nat)),some (.int (b.rooms[n]-xh n (b.all.take i))),v]∧wm H H2)
  ⟨none,by simp [xh];rfl,wm.refl _⟩ (fun i σ H2 _ ⟨_,_,g⟩=>SqL.of (g _ _ p.all)) ?_ ?_⟩
 ·rintro i x σ H2 hi ⟨v,rfl,g⟩
  rw [Jw] at hi
  cases ei:a.recs[i]? with
  | none=>rw [ei] at hi;cases hi
  | some q =>
   rw [ei] at hi
   cases hi
   have hil:i<b.all.length:=by rw [← p.recs.len];exact (Jg.mp ei).1
   have hq:=g _ _ (p.recs.at_ i q b.all[i] ei (Ja hil))
   have et:b.all.take (i+1)=b.all.take i++[b.all[i]]:=by rw [List.take_add_one,Ja hil,Option.toList_some]
   rw [et,mF]
   generalize b.all[i]=r at hq
   refine ⟨_,rfl,q,_,_,_,rfl,rfl,SqL.of hq,rfl,_,rfl,rfl,_,rfl,?_⟩
   rw [vJ]
   refine wx (fun c=>?_) (fun c=>?_)
   ·rw [c,Bool.true_and]
    refine ⟨_,rfl,q,_,_,_,rfl,rfl,SqL.of hq,rfl,(by show 2≤sizeLine;decide),fun l hl=>⟨l,_,rfl,.inl (SqL.of af),rfl,rfl,_,rfl,?_⟩⟩
    show if (inV (.str r.st.txt) [V.str "held",V.str "taken"])=true then _ else _
    rw [uD]
    refine wx (fun c2=>?_) (fun c2=>?_)
    ·rw [J3 c2]
     refine ⟨_,rfl,_,rfl,q,_,_,_,rfl,rfl,SqL.of (ai hl _ _ _ hq),rfl,_,_,rfl,rfl,some (.ref q),?_,g.trans (ai hl _)⟩
     rw [← Int.sub_sub]
     rfl
    ·rw [J0 c2,Int.add_zero]
     exact ⟨_,rfl,g.trans (ai hl _)⟩
   ·have c':decide (r.shw=n)=false:=by simpa using c
    rw [c',Bool.false_and,J0 Jn,Int.add_zero]
    exact yo ⟨_,rfl,g⟩
 ·rintro σ H2 ⟨v,rfl,g⟩
  refine ⟨_,rfl,?_⟩
  have z:=k H2 g
  unfold vY.spare at z
  rw [er] at z
  rw [show (a.recs.map V.ref).length=b.all.length by rw [J9];exact p.recs.len,Y8]
  exact z
theorem dk:wb ["_law_state","_law_show","_law_numbers","_law_row","_law_one"] ["_law_state","_law_show"] (vZ xP):=L2.wy rfl rfl rfl rfl (by decide +kernel)
theorem rZ {f f1:Addr} {fd fd1:FuncData} (F:Fun K "_law_serve" "_law_serve" xP f fd) (T:Blt mg)
  (F__law_spare:Fun K "_law_spare" "_law_spare" x6 f1 fd1) (b__law_spare:Binds K fd1 ["_law_state","_law_show"] []) (m__law_spare:mg "_law_spare" = some (.ref f1)) :
  we P w K mg base CX0 2 f fd ["_law_state","_law_show"] xF:=by
 have G__law_spare:we P w K mg base CX0 1 f1 fd1 ["_law_state","_law_show"] xZ:=mG F__law_spare T
 refine F.ok dk (fun vs H Q E h=>?_) (fun cdv A outer s H vs Q E hr h=>?_)
 ·obtain ⟨d,a,b,n,rfl,_⟩:=h
  rfl
 obtain ⟨d,a,b,n,rfl,p,hn,hrow,hlen,k⟩:=h
 refine ⟨_,    (ae
 (aC (i:=2) dk.nd rfl (Or.inl rfl) (a0 aj))
 (ae
 (aC (i:=3) dk.nd rfl (Or.inl rfl) (ax av (a8 (bM hr) (pv 0) ay (fun _ _=>rfl)) (pv 1) (fun _ _=>rfl)))
 (ae
 (gG PassesOwn.never (PW.pt (iB (au (jr hr.yA) (pv 3) (a0 aj) (wa _)) (fS (au lZ (ax av (ax av (a8 (bM hr) (pv 0) ay (fun _ _=>rfl)) (ax av (pv 3) ag (fun _ _=>rfl)) (fun _ _=>rfl)) ag (fun _ _=>rfl)) (aV G__law_spare hr.mn rfl m__law_spare F__law_spare.kp b__law_spare .nil wg (aa (pv 0) (aa (pv 1) aj))) (wa _)))))
 (ae
 (aC (i:=4) dk.nd rfl (Or.inl rfl) (ax av (a8 (bM hr) (pv 0) ay (fun _ _=>rfl)) (ax av (pv 3) ag (fun _ _=>rfl)) (fun _ _=>rfl)))
 (ae
 (cT ay (eI (pv 4) ag set_list))
 (ae
 (cT (az bh (a8 (bM hr) (pv 0) ay (fun _ _=>rfl)) (ax av (pv 4) ag (fun _ _=>rfl))) (eI (pv 4) ag set_list))
 (ak
 (aF (bP Jl Jq Jr aX (pv 2) (aa (bP Jl PySem.F.slot_list_pop PySem.F.type_list_pop qL (pv 3) (aa ag aj)) aj))))))))
 (ak
 (aA (pv 2)))))),?_⟩
 have hn':n<b.rows.length:=by rw [← p.one];exact hn
 obtain ⟨rp,erp,_⟩:=p.gj hn'
 have mrp:=lB (d:=d) (List.mem_of_getElem? erp)
 refine ⟨(by show 0≤sizeLine;decide),fun l hl=>?_⟩
 have p1:=p.same (ai hl (.lst []))
 have k1:wH (foot d a) H (upd H l (.lst [])):=xy (ai hl _)
 have l1:(upd H l (.lst [])) l=some (.lst (([] : List Nat).map nv)):=af
 have nl:∀ x∈foot d a,x≠l:=fun x hx=>p.ne hx hl
 have nR:l∉a.R::foot d a:=fun m=>(List.mem_cons.mp m).elim (fun e=>by rw [e,p.rooms] at hl;cases hl) fun m=>nl l m rfl
 generalize upd H l (.lst [])=H1 at p1 k1 l1
 refine ⟨_,rfl,d,_,rfl,p1.gW,_,rfl,a.W,_,_,_,rfl,rfl,SqL.of p1.rows,bG erp,?_⟩
 refine ⟨fun m σ H2=>∃ (one:Option V) (b2:vY) (ns:List Nat),σ=[some (.ref d),some (.int (n:Nat)),some (.ref l),some (.ref rp),one]∧Pic H2 d a b2∧wH (foot d a) H H2∧H2 l=some (.lst (ns.map nv)) ∧
   b.serve n=((b2.serve n).1,ns++(b2.serve n).2)∧b2.rooms=b.rooms∧(∀ j∈b2.rows.getD n [],j<b2.all.length)∧ns.length+(b2.rows.getD n []).length≤1000∧m=(b2.rows.getD n []).length,
  ⟨_,none,b,[],rfl,p1,k1,l1,rfl,rfl,hrow,by simpa using hlen,rfl⟩,?_⟩
 rintro m σ H2 ⟨one,b2,ns,rfl,p2,k2,l2,hsv,hro,hr2,hle,rfl⟩
 have hn2:n<b2.rows.length:=by rw [← p2.one,hro];exact hn
 obtain ⟨rp',erp',hrp⟩:=p2.gj hn2
 rw [erp] at erp'
 cases erp'
 refine ⟨_,rfl,(by show 0≤sizeLine;decide),fun q hq=>⟨rp,q,_,rfl,rfl,SqL.of (ai hq _ _ _ hrp),af,_,rfl,?_⟩⟩
 have p3:=p2.same (ai hq (.lst []))
 have k3:=k2.same (ai hq (.lst []))
 have l3:=ai hq (.lst []) _ _ l2
 have hrp3:=ai hq (.lst []) _ _ hrp
 generalize upd H2 q (.lst [])=H3 at p3 k3 l3 hrp3
 have stop:∀ H4,wm H3 H4→b2.serve n=(b2,[])→Q (.ref l) H4:=fun H4 g e=>by
  rw [e,List.append_nil] at hsv
  refine k H4 l ?_ ?_ hl
  ·rw [hsv]
   exact ⟨p3.same g,k3.same g,Ext.refl,rfl⟩
  ·rw [hsv]
   exact g _ _ l3
 cases hrw:b2.rows.getD n [] with
 | nil=>exact yo (yo ⟨_,rfl,stop H3 (wm.refl _) (eZ hn2 (.inl hrw))⟩)
 | cons j r =>
  rw [hrw] at hrp3 hr2 hle
  refine xq ?_
  have hj:j<b2.all.length:=hr2 j Jb
  obtain ⟨q1,eq1,hq1⟩:=p3.eM hj
  have mq1:=jx (d:=d) (List.mem_of_getElem? eq1)
  refine ⟨_,rfl,d,_,rfl,p3.gA,_,rfl,rp,_,_,_,rfl,rfl,SqL.of hrp3,at0,a.A,_,_,_,rfl,rfl,SqL.of p3.all,bG eq1,q1,_,_,_,rfl,rfl,SqL.of hq1,rfl,_,rfl,_,rfl,d,a,b2,n,rfl,p3,(by rw [hro];exact hn),fun H4 g4=>⟨_,_,rfl,rfl,_,rfl,?_⟩⟩
  have p4:=p3.same g4
  have k4:=k3.same g4
  have l4:=g4 _ _ l3
  have hrp4:=g4 _ _ hrp3
  have hq4:=g4 _ _ hq1
  refine wx (fun c=>?_) (fun c=>?_)
  ·have c':(b2.at j).many≤b2.spare n:=Ji c
   refine ⟨fun σ' H'=>∃ m',m'<(j::r).length∧∃ (one:Option V) (b2:vY) (ns:List Nat),σ'=[some (.ref d),some (.int (n:Nat)),some (.ref l),some (.ref rp),one]∧Pic H' d a b2∧wH (foot d a) H H'∧H' l=some (.lst (ns.map nv)) ∧
    b.serve n=((b2.serve n).1,ns++(b2.serve n).2)∧b2.rooms=b.rooms∧(∀ j∈b2.rows.getD n [],j<b2.all.length)∧ns.length+(b2.rows.getD n []).length≤1000∧m'=(b2.rows.getD n []).length,fun _ _ h=>h,?_⟩
   refine ⟨_,rfl,d,_,rfl,p4.gA,_,rfl,rp,_,_,_,rfl,rfl,SqL.of hrp4,at0,a.A,_,_,_,rfl,rfl,SqL.of p4.all,bG eq1,?_⟩
   refine ⟨_,rfl,q1,_,_,4,rfl,rfl,hq4,rfl,?_⟩
   have p5:=p4.zP { b2.at j with st:=.held } eq1
   have e5:(upd H4 q1 (.lst (wL { b2.at j with st:=.held }))) q1=some (.lst (wL { b2.at j with st:=.held })):=af
   have k5:=k4.put (.inl mq1) (.lst (wL { b2.at j with st:=.held }))
   have l5:(upd H4 q1 (.lst (wL { b2.at j with st:=.held }))) l=_:=ao (nl q1 mq1).symm
   have r5:(upd H4 q1 (.lst (wL { b2.at j with st:=.held }))) rp=_:=ao fun e=>(fF p.nd).cr q1 (List.mem_of_getElem? eq1) rp (List.mem_of_getElem? erp) e.symm
   rw [l4] at l5
   rw [hrp4] at r5
   show tSeq _ _ _ _ (upd H4 q1 (.lst (wL { b2.at j with st:=.held })))
   generalize upd H4 q1 (.lst (wL { b2.at j with st:=.held }))=H5 at p5 e5 k5 l5 r5
   refine ⟨_,rfl,d,_,rfl,p5.gN,_,rfl,q1,_,_,_,rfl,rfl,SqL.of e5,rfl,_,_,rfl,rfl,_,rfl,q1,_,_,5,rfl,rfl,e5,rfl,?_⟩
   have p6:=p5.zP ((b2.at j).hold b2.now) eq1
   have k6:=k5.put (.inl mq1) (.lst (wL ((b2.at j).hold b2.now)))
   have l6:(upd H5 q1 (.lst (wL ((b2.at j).hold b2.now)))) l=_:=ao (nl q1 mq1).symm
   have r6:(upd H5 q1 (.lst (wL ((b2.at j).hold b2.now)))) rp=_:=ao fun e=>(fF p.nd).cr q1 (List.mem_of_getElem? eq1) rp (List.mem_of_getElem? erp) e.symm
   rw [l5] at l6
   rw [r5] at r6
   refine wz (H':=upd H5 q1 (.lst (wL ((b2.at j).hold b2.now)))) rfl ?_
   generalize upd H5 q1 (.lst (wL ((b2.at j).hold b2.now)))=H6 at p6 k6 l6 r6
   refine ⟨_,rfl,.inl ⟨rfl,_,SqL.of l6⟩,_,rfl,.inl ⟨rfl,_,SqL.of r6⟩,rp,_,0,0,_,rfl,rfl,r6,(by decide),(by decide),PySem.StrLaws.seqIndex_nonneg (by decide) (by rw [List.map_cons,Jy];omega),rfl,?_⟩
   have p7:=p6.setRow r erp
   have k7:=k6.put (.inl mrp) (.lst (r.map nv))
   have l7:(upd H6 rp (.lst (r.map nv))) l=_:=ao (nl rp mrp).symm
   rw [l6] at l7
   refine wz (H':=upd H6 rp (.lst (r.map nv))) rfl ?_
   generalize upd H6 rp (.lst (r.map nv))=H7 at p7 k7 l7
   refine ⟨l,_,_,rfl,rfl,l7,big (by rw [J9];omega),?_⟩
   have g8:∀ x o,H7 x=some o→x≠l→(upd H7 l (.lst ((ns++[j]).map nv))) x=some o:=fun x o h e=>by rw [ao e];exact h
   have e8:((ns++[j]).map nv)=ns.map nv++[nv j]:=by rw [Jz];rfl
   refine wz (H':=upd H7 l (.lst ((ns++[j]).map nv))) (by rw [e8]) ?_
   have eb:({ b2.hold j with rows:=b2.rows.set n r } : vY).rows.getD n []=r:=by
    show (b2.rows.set n r).getD n []=r
    rw [Jj,List.getElem?_set_self hn2,Yi]
   refine ⟨r.length,Nat.lt_succ_self _,some (.ref q1),{ b2.hold j with rows:=b2.rows.set n r },ns++[j],rfl,?_,?_,af,?_,hro,?_,?_,?_⟩
   ·have e7:(b2.all.set j { b2.at j with st:=.held }).set j ((b2.at j).hold b2.now)=b2.all.set j ((b2.at j).hold b2.now):=List.set_set ..
    have p7':Pic H7 d a { b2 with all:=(b2.all.set j { b2.at j with st:=.held }).set j ((b2.at j).hold b2.now),rows:=b2.rows.set n r }:=p7
    rw [e7] at p7'
    exact p7'.yV nR
   ·exact fun x o h hx=>g8 x o (k7 x o h hx) fun e=>by subst e;rw [hl] at h;cases h
   ·rw [hsv,jy hn2 hrw c',Y6]
    rfl
   ·intro i hi
    rw [eb] at hi
    show i<(b2.all.set j _).length
    rw [Jt]
    exact hr2 i (Jd _ hi)
   ·rw [eb,Jc,Jo]
    rw [Jy] at hle
    omega
   ·rw [eb]
  ·have c':¬ (b2.at j).many≤b2.spare n:=fun z=>c (Je z)
   exact ⟨_,rfl,stop H4 g4 (eZ hn2 (.inr ⟨j,r,hrw,c'⟩))⟩
end
end Kp
namespace Kp
open PySem L2
def ze:Sp:=fun vs H Q _=>∃ (d:Addr) (a:Adr) (b:vY) (n:Nat),vs=[.ref d,.int (n:Nat)]∧Pic H d a b∧b.Ok∧n<b.all.length∧b.all.length≤1000 ∧
 ∀ H' l,After H d a H' a (b.leave n).1→H' l=some (.lst ((b.leave n).2.map nv))→H l=none→Q (.ref l) H'
def x9:Sp:=fun vs H Q _=>∃ (d:Addr) (a:Adr) (b:vY) (x:Addr) (who:Str) (s m g:Int),vs=[.ref d,.ref x]∧H x=some (.tup (wd.keep who s m g).vs)∧Pic H d a b∧b.Ok∧b.all.length<1000∧zB H d a (b.enter who s m g) Q
theorem bj {b:vY} {t:Int} : b.wo t=true↔0≤t∧t<b.rooms.length:=by unfold vY.wo;rw [Yb,Jx,Jx]
theorem jb (r:Rec) : decide (V.str r.st.txt=V.str "waiting")=decide (r.st=.waiting):=by cases r.st <;> decide +kernel
section
variable {P:Program} {w:World} {K:Ay} {mg:Str→Option Value} {base:Heap}
theorem ig:wb ["_law_state","_law_number","_law_one"] ["_law_state","_law_number"] (vZ zE):=L2.wy rfl rfl rfl rfl (by decide +kernel)
theorem uE {f f1:Addr} {fd fd1:FuncData} (F:Fun K "_law_gone" "_law_gone" zE f fd) (T:Blt mg)
  (F__law_serve:Fun K "_law_serve" "_law_serve" xP f1 fd1) (b__law_serve:Binds K fd1 ["_law_state","_law_show"] []) (m__law_serve:mg "_law_serve" = some (.ref f1))
  (G__law_serve:we P w K mg base CX0 2 f1 fd1 ["_law_state","_law_show"] xF) :
  we P w K mg base CX0 3 f fd ["_law_state","_law_number"] ze:=by
 refine F.ok ig (fun vs H Q E h=>?_) (fun cdv A outer s H vs Q E hr h=>?_)
 ·obtain ⟨d,a,b,n,rfl,_⟩:=h
  rfl
 obtain ⟨d,a,b,n,rfl,p,O,hn,hl,k⟩:=h
 refine ⟨_,    (ae
 (aC (i:=2) ig.nd rfl (Or.inl rfl) (ax av (a8 (bM hr) (pv 0) ay (fun _ _=>rfl)) (pv 1) (fun _ _=>rfl)))
 (dh
 (aH (au bb (ax av (pv 2) ag (fun _ _=>rfl)) ay (wa _))
 (ak
 (aF (bP Jl PySem.F.slot_list_remove PySem.F.type_list_remove pw (ax av (a8 (bM hr) (pv 0) ay (fun _ _=>rfl)) (ax av (pv 2) ag (fun _ _=>rfl)) (fun _ _=>rfl)) (aa (pv 1) aj))))
 aB)
 (ae
 (cT ay (eI (pv 2) ag set_list))
 (ae
 (cT eG (eI (pv 2) ag set_list))
 (ak
 (aA (aV G__law_serve hr.mn rfl m__law_serve F__law_serve.kp b__law_serve .nil wg (aa (pv 0) (aa (ax av (pv 2) ag (fun _ _=>rfl)) aj))))))))),?_⟩
 obtain ⟨q,eq,hq⟩:=p.eM hn
 have hs:=O.shw n hn
 have hsr:(b.at n).shw<b.rows.length:=by rw [← O.one];exact hs
 obtain ⟨rp,erp,hrp⟩:=p.gj hsr
 refine ⟨_,rfl,d,_,rfl,p.gA,_,rfl,a.A,_,_,_,rfl,rfl,SqL.of p.all,bG eq,?_⟩
 refine ⟨fun σ H'=>σ=[some (.ref d),some (.int (n:Nat)),some (.ref q)]∧After H d a H' a (b.unrow n),?_,?_⟩
 ·refine ⟨_,rfl,q,_,_,_,rfl,rfl,SqL.of hq,rfl,rfl,_,rfl,?_⟩
  rw [show (decide (V.str (b.at n).st.txt=V.str "waiting"))=decide ((b.at n).st=.waiting) from jb _]
  refine wx (fun c=>?_) (fun c=>?_)
  ·have c':=Ji c
   refine ⟨_,rfl,d,_,rfl,p.gW,_,rfl,q,_,_,_,rfl,rfl,SqL.of hq,rfl,a.W,_,_,_,rfl,rfl,SqL.of p.rows,bG erp,.inl ⟨rfl,_,SqL.of hrp⟩,_,rfl,rp,_,n,rfl,rfl,hrp,O.wait n hn c',rfl,?_⟩
   rw [gX c']
   exact (After.refl p).row _ erp
  ·rw [gY fun z=>c (Je z)]
   exact ⟨rfl,After.refl p⟩
 ·rintro σ H1 ⟨rfl,A1⟩
  have hn1:n<(b.unrow n).all.length:=by rw [iG];exact hn
  obtain ⟨q',eq',hq1⟩:=A1.pic.eM hn1
  rw [eq] at eq'
  cases eq'
  rw [rj] at hq1
  refine ⟨_,rfl,q,_,_,4,rfl,rfl,hq1,rfl,?_⟩
  have A2:=A1.recd { b.at n with st:=.gone } eq
  have e2:(upd H1 q (.lst (wL { b.at n with st:=.gone }))) q=some (.lst (wL { b.at n with st:=.gone })):=af
  refine wz (H':=upd H1 q (.lst (wL { b.at n with st:=.gone }))) rfl ?_
  generalize upd H1 q (.lst (wL { b.at n with st:=.gone }))=H2 at A2 e2
  refine ⟨_,rfl,q,_,_,5,rfl,rfl,e2,rfl,?_⟩
  have A3:=A2.recd (b.at n).go eq
  have e3:(upd H2 q (.lst (wL (b.at n).go))) q=some (.lst (wL (b.at n).go)):=af
  refine wz (H':=upd H2 q (.lst (wL (b.at n).go))) rfl ?_
  generalize upd H2 q (.lst (wL (b.at n).go))=H3 at A3 e3
  have eb:({ b.unrow n with all:=((b.unrow n).all.set n { b.at n with st:=.gone }).set n (b.at n).go } : vY)=b.left n:=by
   rw [List.set_set,iG]
   rfl
  have A4:After H d a H3 a (b.left n):=by rw [← eb];exact A3
  have OL:=cW O hn
  refine ⟨_,rfl,_,rfl,q,_,_,_,rfl,rfl,SqL.of e3,rfl,d,a,b.left n,(b.at n).shw,rfl,A4.pic,cv O hn,fun m hm=>(OL.row _ m hm).1,Ju (OL.len _) (by rw [d8];exact hl),fun H4 l A5 hl4 hl3=>?_⟩
  exact k H4 l (A4.trans A5) hl4 (dW A4.keep A4.ext A4.pic (fun _ h=>h) hl3)
theorem dH:wb ["_law_state","_law_deed","_law_show","_law_number"] ["_law_state","_law_deed"] (vZ xX):=L2.wy rfl rfl rfl rfl (by decide +kernel)
theorem nK {f f1:Addr} {fd fd1:FuncData} (F:Fun K "_law_entered" "_law_entered" xX f fd) (T:Blt mg)
  (F__law_serve:Fun K "_law_serve" "_law_serve" xP f1 fd1) (b__law_serve:Binds K fd1 ["_law_state","_law_show"] []) (m__law_serve:mg "_law_serve" = some (.ref f1))
  (G__law_serve:we P w K mg base CX0 2 f1 fd1 ["_law_state","_law_show"] xF) :
  we P w K mg base CX0 3 f fd ["_law_state","_law_deed"] x9:=by
 refine F.ok dH (fun vs H Q E h=>?_) (fun cdv A outer s H vs Q E hr h=>?_)
 ·obtain ⟨d,a,b,x,who,t,m,g,rfl,_⟩:=h
  rfl
 obtain ⟨d,a,b,x,who,t,m,g,rfl,hx,p,O,hl,k⟩:=h
 refine ⟨_,    (ae
 (aC (i:=2) dH.nd rfl (Or.inl rfl) (ax aK (pv 1) ag (fun _ _=>rfl)))
 (ae
 (aH (PW.pt (dJ (au cP (pv 2) ag (wa _)) (cM (au gH (pv 2) (aJ aG rfl T.len bF (aa (a8 (bM hr) (pv 0) ay (fun _ _=>rfl)) aj)) (wa _)))))
 (ak
 (aA ay))
 aB)
 (ae
 (aH (au cP (ax aK (pv 1) ag (fun _ _=>rfl)) ag (wa _))
 (ak
 (aA ay))
 aB)
 (ae
 (aH (au fW (ax aK (pv 1) ag (fun _ _=>rfl)) (ax av (a8 (bM hr) (pv 0) ay (fun _ _=>rfl)) (pv 2) (fun _ _=>rfl)) (wa _))
 (ak
 (aA ay))
 aB)
 (ae
 (aH (au cP (ax aK (pv 1) ag (fun _ _=>rfl)) ag (wa _))
 (ak
 (aA ay))
 aB)
 (ae
 (aC (i:=3) dH.nd rfl (Or.inl rfl) (aJ aG rfl T.len bF (aa (a8 (bM hr) (pv 0) ay (fun _ _=>rfl)) aj)))
 (ae
 (aF (bP Jl Jq Jr aX (a8 (bM hr) (pv 0) ay (fun _ _=>rfl)) (aa (a0 (aa (ax aK (pv 1) ag (fun _ _=>rfl)) (aa (pv 2) (aa (ax aK (pv 1) ag (fun _ _=>rfl)) (aa (ax aK (pv 1) ag (fun _ _=>rfl)) (aa ay (aa eG aj))))))) aj)))
 (ae
 (aF (bP Jl Jq Jr aX (ax av (a8 (bM hr) (pv 0) ay (fun _ _=>rfl)) (pv 2) (fun _ _=>rfl)) (aa (pv 3) aj)))
 (ae
 (aF (aV G__law_serve hr.mn rfl m__law_serve F__law_serve.kp b__law_serve .nil wg (aa (pv 0) (aa (pv 2) aj))))
 (ak
 (aA (bu (aa (pv 3) (aa (ax av (ax av (a8 (bM hr) (pv 0) ay (fun _ _=>rfl)) (pv 3) (fun _ _=>rfl)) ag (fun _ _=>rfl)) aj)))))))))))))),?_⟩
 refine ⟨_,rfl,x,_,_,_,rfl,rfl,SqT.of hx,rfl,?_⟩
 have e0:¬ b.wo t=true→b.enter who t m g=(b,.str "no show"):=fun c=>by unfold vY.enter;rw [J3 (Bool.eq_false_iff.mpr c)]
 refine ⟨_,rfl,_,_,rfl,rfl,_,rfl,?_⟩
 refine wx (fun c=>?_) (fun c=>?_)
 ·rw [e0 fun z=>by have:=Ji c;have:=(bj.mp z).1;omega] at k
  exact xq (k H a _ (After.refl p) aN bA)
 refine ⟨_,rfl,_,rfl,d,_,rfl,p.gR,a.R,_,rfl,.inl (SqL.of p.rooms),_,_,rfl,rfl,_,rfl,?_⟩
 have c':¬ t<0:=fun z=>c (Je z)
 refine wx (fun c2=>?_) (fun c2=>?_)
 ·rw [e0 fun z=>by
   have q1:(((b.rooms.map V.int).length:Nat) : Int)≤t:=Ji c2
   have:=(bj.mp z).2
   rw [J9] at q1
   omega] at k
  exact k H a _ (After.refl p) aN bA
 have c2':¬ (((b.rooms.map V.int).length:Nat) : Int)≤t:=fun z=>c2 (Je z)
 rw [J9] at c2'
 clear c c2 e0
 obtain ⟨sh,rfl⟩:=Int.eq_ofNat_of_zero_le (Int.not_lt.mp c')
 have hs:sh<b.rooms.length:=by omega
 have ei:b.wo (sh:Nat)=true:=bj.mpr ⟨by omega,by omega⟩
 have hroom:b.rooms.getD sh 0=b.rooms[sh]:=by rw [Jj,Ja hs,Yi]
 unfold vY.enter at k
 rw [J0 (by rw [ei];decide),Jp] at k
 refine ⟨_,rfl,x,_,_,_,rfl,rfl,SqT.of hx,rfl,_,_,rfl,rfl,_,rfl,?_⟩
 refine wx (fun c=>?_) (fun c=>?_)
 ·rw [J3 (Ji c)] at k
  exact k H a _ (After.refl p) aN bA
 rw [J0 fun z=>c (Je z)] at k
 clear c
 refine ⟨_,rfl,x,_,_,_,rfl,rfl,SqT.of hx,rfl,_,rfl,d,_,rfl,p.gR,_,rfl,a.R,_,_,_,rfl,rfl,SqL.of p.rooms,eA hs,_,_,rfl,rfl,_,rfl,?_⟩
 rw [hroom] at k
 refine wx (fun c=>?_) (fun c=>?_)
 ·rw [J3 (Ji c)] at k
  exact k H a _ (After.refl p) aN bA
 rw [J0 fun z=>c (Je z)] at k
 clear c
 refine ⟨_,rfl,x,_,_,_,rfl,rfl,SqT.of hx,rfl,_,_,rfl,rfl,_,rfl,?_⟩
 refine wx (fun c=>?_) (fun c=>?_)
 ·rw [J3 (Ji c)] at k
  exact k H a _ (After.refl p) aN bA
 rw [J0 fun z=>c (Je z)] at k
 clear c
 refine ⟨_,rfl,d,_,rfl,p.gA,a.A,_,rfl,.inl (SqL.of p.all),?_⟩
 have ea:(a.recs.map V.ref).length=b.all.length:=by rw [J9];exact p.recs.len
 rw [ea]
 refine ⟨_,rfl,d,_,rfl,p.gA,.inl ⟨rfl,_,SqL.of p.all⟩,_,rfl,x,_,_,_,rfl,rfl,SqT.of hx,rfl,_,rfl,_,rfl,x,_,_,_,rfl,rfl,SqT.of hx,rfl,_,rfl,x,_,_,_,rfl,rfl,SqT.of hx,rfl,(by show 6≤sizeLine;decide),fun q hq=>?_⟩
 have A1:=(After.refl p).add (fun _ h=>h) (r:=⟨who,sh,m,g,.waiting,none⟩) hq
 refine ⟨a.A,_,_,rfl,rfl,ai hq _ _ _ p.all,big (by rw [ea];omega),?_⟩
 have er:(a.recs.map V.ref)++[V.ref q]=(a.recs++[q]).map V.ref:=by rw [Jz];rfl
 refine wz (H':=upd (upd H q (.lst (wL ⟨who,sh,m,g,.waiting,none⟩))) a.A (.lst ((a.recs++[q]).map V.ref))) (by rw [← er];rfl) ?_
 generalize upd (upd H q (.lst (wL ⟨who,sh,m,g,.waiting,none⟩))) a.A (.lst ((a.recs++[q]).map V.ref))=H2 at A1
 have hsr:sh<b.rows.length:=by rw [← O.one];exact hs
 obtain ⟨rp,erp,hrp⟩:=A1.pic.gj (s:=sh) hsr
 have hrl:=O.len sh
 refine ⟨_,rfl,d,_,rfl,A1.pic.gW,_,rfl,a.W,_,_,_,rfl,rfl,SqL.of A1.pic.rows,bG erp,.inl ⟨rfl,_,SqL.of hrp⟩,_,rfl,rp,_,_,rfl,rfl,hrp,big (by rw [J9];show (b.rows.getD sh []).length≤_;omega),?_⟩
 have A2:=A1.row (b.rows.getD sh []++[b.all.length]) erp
 refine wz (H':=upd H2 rp (.lst ((b.rows.getD sh []++[b.all.length]).map nv))) (by rw [Jz];rfl) ?_
 generalize upd H2 rp (.lst ((b.rows.getD sh []++[b.all.length]).map nv))=H3 at A2
 have O2:=O.enter (r:=⟨who,sh,m,g,.waiting,none⟩) hs rfl rfl
 have S2:=cm (s:=sh) O2 hs
 refine ⟨_,rfl,_,rfl,d,_,_,sh,rfl,A2.pic,hs,fun j hj=>(O2.row _ j hj).1,Ju (O2.len _) (by show (b.all++[_]).length≤1000;rw [Jc,Jo];omega),fun H4 l A3 hl4 hl3=>?_⟩
 have A4:=A2.trans A3
 have hn:b.all.length<(vY.serve { b with all:=b.all++[⟨who,sh,m,g,.waiting,none⟩],rows:=b.rows.set sh (b.rows.getD sh []++[b.all.length]) } sh).1.all.length:=by rw [S2.len];show _<(b.all++[_]).length;rw [Jc,Jo];omega
 obtain ⟨q4,eq4,hq4⟩:=A4.pic.eM hn
 refine ⟨_,rfl,_,rfl,d,_,rfl,A4.pic.gA,_,rfl,a.A,_,_,_,rfl,rfl,SqL.of A4.pic.all,bG eq4,q4,_,_,_,rfl,rfl,SqL.of hq4,rfl,(by show 2≤sizeLine;decide),fun z hz=>?_⟩
 exact k _ _ _ (A4.same (ai hz _)) (dO (A4.pic.new hz) af (aI bE (aI aN bD))) (cY (dW A4.keep A4.ext A4.pic (fun x hx=>by unfold foot Adr.own at hx ⊢;simp only [List.mem_cons,Y1] at hx ⊢;rcases hx with h | h | h | h | h <;> simp [h]) hz))
end
end Kp
namespace Kp
open PySem L2
def zf:Sp:=fun vs H Q _=>∃ (d:Addr) (a:Adr) (b:vY) (n:Nat) (t:Int),vs=[.ref d,.int (n:Nat),.int t]∧Pic H d a b∧b.Ok∧n<b.all.length∧b.all.length≤1000∧zB H d a (b.moveTo n t) Q
theorem oE (k:Nat) (t:Int) : decide (V.int (k:Nat)=V.int t)=decide ((k:Int)=t):=by
 rw [decide_eq_decide]
 exact ⟨fun h=>by injection h,fun h=>by rw [h]⟩
section
variable {P:Program} {w:World} {K:Ay} {mg:Str→Option Value} {base:Heap}
theorem eO:wb ["_law_state","_law_number","_law_goal","_law_one","_law_old"] ["_law_state","_law_number","_law_goal"] (vZ zb):=L2.wy rfl rfl rfl rfl (by decide +kernel)
theorem sd {f f1 f2:Addr} {fd fd1 fd2:FuncData} (F:Fun K "_law_moved" "_law_moved" zb f fd) (T:Blt mg)
  (F__law_serve:Fun K "_law_serve" "_law_serve" xP f1 fd1) (b__law_serve:Binds K fd1 ["_law_state","_law_show"] []) (m__law_serve:mg "_law_serve" = some (.ref f1))
  (G__law_serve:we P w K mg base CX0 2 f1 fd1 ["_law_state","_law_show"] xF)
  (F__law_spare:Fun K "_law_spare" "_law_spare" x6 f2 fd2) (b__law_spare:Binds K fd2 ["_law_state","_law_show"] []) (m__law_spare:mg "_law_spare" = some (.ref f2))
  (G__law_spare:we P w K mg base CX0 1 f2 fd2 ["_law_state","_law_show"] xZ) :
  we P w K mg base CX0 3 f fd ["_law_state","_law_number","_law_goal"] zf:=by
 refine F.ok eO (fun vs H Q E h=>?_) (fun cdv A outer s H vs Q E hr h=>?_)
 ·obtain ⟨d,a,b,n,t,rfl,_⟩:=h
  rfl
 obtain ⟨d,a,b,n,t,rfl,p,O,hn,hl,k⟩:=h
 refine ⟨_,    (ae
 (aC (i:=3) eO.nd rfl (Or.inl rfl) (ax av (a8 (bM hr) (pv 0) ay (fun _ _=>rfl)) (pv 1) (fun _ _=>rfl)))
 (ae
 (aH (PW.pt (dJ (au cP (pv 2) ag (wa _)) (cM (au gH (pv 2) (aJ aG rfl T.len bF (aa (a8 (bM hr) (pv 0) ay (fun _ _=>rfl)) aj)) (wa _)))))
 (ak
 (aA ay))
 aB)
 (ae
 (aH (au bb (ax av (pv 3) ag (fun _ _=>rfl)) ay (wa _))
 (ak
 (aA ay))
 aB)
 (ae
 (aH (au bb (ax av (pv 3) ag (fun _ _=>rfl)) (pv 2) (wa _))
 (ak
 (aA ay))
 aB)
 (ae
 (aH (PW.pt (dJ (au (jr hr.yA) (ax av (a8 (bM hr) (pv 0) ay (fun _ _=>rfl)) (pv 2) (fun _ _=>rfl)) (a0 aj) (wa _)) (cM (au fW (ax av (pv 3) ag (fun _ _=>rfl)) (aV G__law_spare hr.mn rfl m__law_spare F__law_spare.kp b__law_spare .nil wg (aa (pv 0) (aa (pv 2) aj))) (wa _)))))
 (ak
 (aA ay))
 aB)
 (ae
 (aC (i:=4) eO.nd rfl (Or.inl rfl) (ax av (pv 3) ag (fun _ _=>rfl)))
 (ae
 (cT (pv 2) (eI (pv 3) ag set_list))
 (ak
 (aA (aV G__law_serve hr.mn rfl m__law_serve F__law_serve.kp b__law_serve .nil wg (aa (pv 0) (aa (pv 4) aj)))))))))))),?_⟩
 obtain ⟨q,eq,hq⟩:=p.eM hn
 refine ⟨_,rfl,d,_,rfl,p.gA,_,rfl,a.A,_,_,_,rfl,rfl,SqL.of p.all,bG eq,?_⟩
 have e0:¬ b.wo t=true→b.moveTo n t=(b,.str "no show"):=fun c=>by unfold vY.moveTo;rw [J3 (Bool.eq_false_iff.mpr c)]
 refine ⟨_,rfl,_,_,rfl,rfl,_,rfl,?_⟩
 refine wx (fun c=>?_) (fun c=>?_)
 ·rw [e0 fun z=>by have:=Ji c;have:=(bj.mp z).1;omega] at k
  exact xq (k H a _ (After.refl p) aN bA)
 refine ⟨_,rfl,_,rfl,d,_,rfl,p.gR,a.R,_,rfl,.inl (SqL.of p.rooms),_,_,rfl,rfl,_,rfl,?_⟩
 have c':¬ t<0:=fun z=>c (Je z)
 refine wx (fun c2=>?_) (fun c2=>?_)
 ·rw [e0 fun z=>by
   have q1:(((b.rooms.map V.int).length:Nat) : Int)≤t:=Ji c2
   have:=(bj.mp z).2
   rw [J9] at q1
   omega] at k
  exact k H a _ (After.refl p) aN bA
 have c2':¬ (((b.rooms.map V.int).length:Nat) : Int)≤t:=fun z=>c2 (Je z)
 rw [J9] at c2'
 clear c c2 e0
 obtain ⟨sh,rfl⟩:=Int.eq_ofNat_of_zero_le (Int.not_lt.mp c')
 have hs:sh<b.rooms.length:=by omega
 have ei:b.wo (sh:Nat)=true:=bj.mpr ⟨by omega,by omega⟩
 unfold vY.moveTo at k
 rw [J0 (by rw [ei];decide),Jp] at k
 refine ⟨_,rfl,q,_,_,_,rfl,rfl,SqL.of hq,rfl,rfl,_,rfl,?_⟩
 rw [show (decide (V.str (b.at n).st.txt=V.str "waiting"))=decide ((b.at n).st=.waiting) from jb _]
 refine wx (fun c=>?_) (fun c=>?_)
 ·rw [J3 (Ji c)] at k
  exact k H a _ (After.refl p) aN bA
 have cw:¬ (b.at n).st=.waiting:=fun z=>c (Je z)
 rw [J0 cw] at k
 clear c
 refine ⟨_,rfl,q,_,_,_,rfl,rfl,SqL.of hq,rfl,_,rfl,rfl,_,rfl,?_⟩
 rw [oE]
 refine wx (fun c=>?_) (fun c=>?_)
 ·rw [J3 (Ji c)] at k
  exact k H a _ (After.refl p) aN bA
 rw [J0 fun z=>c (Je z)] at k
 clear c
 have hsr:sh<b.rows.length:=by rw [← O.one];exact hs
 obtain ⟨rp,erp,hrp⟩:=p.gj hsr
 refine ⟨_,rfl,d,_,rfl,p.gW,_,rfl,a.W,_,_,_,rfl,rfl,SqL.of p.rows,bG erp,(by show 0≤sizeLine;decide),fun z hz=>⟨rp,z,_,rfl,rfl,SqL.of (ai hz _ _ _ hrp),af,_,rfl,?_⟩⟩
 have A1:=(After.refl p).same (ai hz (.lst []))
 have hq1:=ai hz (.lst []) _ _ hq
 generalize upd H z (.lst [])=H1 at A1 hq1
 refine wx (fun c=>?_) (fun c=>?_)
 ·rw [J3 (.inl fun z=>by rw [z] at c;cases c)] at k
  exact xq (k H1 a _ A1 aN bA)
 have cr:b.rows.getD sh []=[]:=by
  cases z:b.rows.getD sh [] with
  | nil=>rfl
  | cons x y=>rw [z] at c;exact absurd rfl c
 refine ⟨_,rfl,q,_,_,_,rfl,rfl,SqL.of hq1,rfl,_,rfl,_,rfl,d,a,b,sh,rfl,A1.pic,hs,fun H2 g2=>⟨_,_,rfl,rfl,_,rfl,?_⟩⟩
 have A2:=A1.same g2
 have hq2:=g2 _ _ hq1
 refine wx (fun c=>?_) (fun c=>?_)
 ·rw [J3 (.inr (Ji c))] at k
  exact k H2 a _ A2 aN bA
 rw [J0 fun z=>z.elim (fun z=>z cr) fun z=>c (Je z)] at k
 refine ⟨_,rfl,q,_,_,_,rfl,rfl,SqL.of hq2,rfl,?_⟩
 refine ⟨_,rfl,_,rfl,q,_,_,1,rfl,rfl,hq2,rfl,?_⟩
 have A3:=A2.recd { b.at n with shw:=sh } eq
 refine wz (H':=upd H2 q (.lst (wL { b.at n with shw:=sh }))) rfl ?_
 generalize upd H2 q (.lst (wL { b.at n with shw:=sh }))=H3 at A3
 have O3:=O.put (r:={ b.at n with shw:=sh }) hn hs Iff.rfl (fun z=>absurd z cw) (O.til n hn)
 refine ⟨_,rfl,_,rfl,d,a,_,(b.at n).shw,rfl,A3.pic,O.shw n hn,fun m hm=>(O3.row _ m hm).1,Ju (O3.len _) (by show (b.all.set _ _).length≤_;rw [Jt];exact hl),fun H4 l A5 hl4 hl3=>?_⟩
 exact k H4 a _ (A3.trans A5) (dw (A3.pic.new hl3) hl4) (cY (dW A3.keep A3.ext A3.pic (fun _ h=>h) hl3))
end
end Kp
namespace Kp
open PySem L2
def wd.onOne:wd→Bool
 | .take _ | .back _ | .part _ _ | .move _ _ | .pass _ _=>true
 | _=>false
def ya:Sp:=fun vs H Q _=>∃ (d:Addr) (a:Adr) (b:vY) (x:Addr) (dd:wd),vs=[.ref d,.ref x]∧H x=some (.tup dd.vs)∧Pic H d a b∧b.Ok∧b.all.length≤1000∧dd.onOne=true∧zB H d a (b.done dd) Q
theorem se (b:vY) (dd:wd) (h:dd.onOne=true) : ∃ (k:Str) (n:Int) (r:List V),dd.vs=.str k::.int n::r∧(b.live n=false→b.done dd=(b,.str "no keeping")):=by
 cases dd <;> first | (cases h;done) | exact ⟨_,_,_,rfl,fun c=>J3 c⟩
theorem cA {b:vY} {t:Int} : b.wZ t=true↔0≤t∧t<b.all.length:=by unfold vY.wZ;rw [Yb,Jx,Jx]
theorem ik {b:vY} {t:Int} : b.live t=true↔(0≤t∧t<b.all.length)∧(b.at t.toNat).st≠.gone:=by unfold vY.live;rw [Yb,cA,Jx]
theorem pT (b:vY) (n:Int) : b.done (.take n)=if b.live n=false then (b,.str "no keeping") else b.wW n.toNat:=rfl
theorem pU (b:vY) (n:Int) : b.done (.back n)=if b.live n=false then (b,.str "no keeping") else ((b.leave n.toNat).1,wY (b.leave n.toNat).2):=rfl
theorem pV (b:vY) (n m:Int) : b.done (.part n m)=if b.live n=false then (b,.str "no keeping") else b.wV n.toNat m:=rfl
theorem pW (b:vY) (n s:Int) : b.done (.move n s)=if b.live n=false then (b,.str "no keeping") else b.moveTo n.toNat s:=rfl
theorem pX (b:vY) (n:Int) (w:Str) : b.done (.pass n w)=if b.live n=false then (b,.str "no keeping") else ({ b with all:=b.all.set n.toNat { b.at n.toNat with who:=w } },.str "passed"):=rfl
theorem jc (r:Rec) : decide (V.str r.st.txt=V.str "gone")=decide (r.st=.gone):=by cases r.st <;> decide +kernel
theorem ip (r:Rec) : decide (V.str r.st.txt=V.str "held")=decide (r.st=.held):=by cases r.st <;> decide +kernel
section
variable {P:Program} {w:World} {K:Ay} {mg:Str→Option Value} {base:Heap}
theorem dg:wb ["_law_state","_law_deed","_law_number","_law_one"] ["_law_state","_law_deed"] (vZ xY):=L2.wy rfl rfl rfl rfl (by decide +kernel)
theorem mH {f f1 f2 f3:Addr} {fd fd1 fd2 fd3:FuncData} (F:Fun K "_law_with_one" "_law_with_one" xY f fd) (T:Blt mg)
  (F__law_serve:Fun K "_law_serve" "_law_serve" xP f1 fd1) (b__law_serve:Binds K fd1 ["_law_state","_law_show"] []) (m__law_serve:mg "_law_serve" = some (.ref f1))
  (G__law_serve:we P w K mg base CX0 2 f1 fd1 ["_law_state","_law_show"] xF)
  (F__law_gone:Fun K "_law_gone" "_law_gone" zE f2 fd2) (b__law_gone:Binds K fd2 ["_law_state","_law_number"] []) (m__law_gone:mg "_law_gone" = some (.ref f2))
  (G__law_gone:we P w K mg base CX0 3 f2 fd2 ["_law_state","_law_number"] ze)
  (F__law_moved:Fun K "_law_moved" "_law_moved" zb f3 fd3) (b__law_moved:Binds K fd3 ["_law_state","_law_number","_law_goal"] []) (m__law_moved:mg "_law_moved" = some (.ref f3))
  (G__law_moved:we P w K mg base CX0 3 f3 fd3 ["_law_state","_law_number","_law_goal"] zf) :
  we P w K mg base CX0 4 f fd ["_law_state","_law_deed"] ya:=by
 refine F.ok dg (fun vs H Q E h=>?_) (fun cdv A outer s H vs Q E hr h=>?_)
 ·obtain ⟨d,a,b,x,dd,rfl,_⟩:=h
  rfl
 obtain ⟨d,a,b,x,dd,rfl,hx,p,O,hl,h1,k⟩:=h
 refine ⟨_,    (ae
 (aC (i:=2) dg.nd rfl (Or.inl rfl) (ax aK (pv 1) ag (fun _ _=>rfl)))
 (ae
 (aH (PW.pt (dJ (au cP (pv 2) ag (wa _)) (dJ (au gH (pv 2) (aJ aG rfl T.len bF (aa (a8 (bM hr) (pv 0) ay (fun _ _=>rfl)) aj)) (wa _)) (cM (au bb (ax av (ax av (a8 (bM hr) (pv 0) ay (fun _ _=>rfl)) (pv 2) (fun _ _=>rfl)) ag (fun _ _=>rfl)) ay (wa _))))))
 (ak
 (aA ay))
 aB)
 (ae
 (aC (i:=3) dg.nd rfl (Or.inl rfl) (ax av (a8 (bM hr) (pv 0) ay (fun _ _=>rfl)) (pv 2) (fun _ _=>rfl)))
 (ae
 (aH (au bb (ax aK (pv 1) ag (fun _ _=>rfl)) ay (wa _))
 (ae
 (aH (au fD (ax av (pv 3) ag (fun _ _=>rfl)) ay (wa _))
 (ak
 (aA ay))
 aB)
 (ae
 (cT ay (eI (pv 3) ag set_list))
 (ae
 (cT eG (eI (pv 3) ag set_list))
 (ak
 (aA ay)))))
 aB)
 (ae
 (aH (au bb (ax aK (pv 1) ag (fun _ _=>rfl)) ay (wa _))
 (ak
 (aA (aV G__law_gone hr.mn rfl m__law_gone F__law_gone.kp b__law_gone .nil wg (aa (pv 0) (aa (pv 2) aj)))))
 aB)
 (ae
 (aH (au bb (ax aK (pv 1) ag (fun _ _=>rfl)) ay (wa _))
 (ak
 (aA (aV G__law_moved hr.mn rfl m__law_moved F__law_moved.kp b__law_moved .nil wg (aa (pv 0) (aa (pv 2) (aa (ax aK (pv 1) ag (fun _ _=>rfl)) aj))))))
 aB)
 (ae
 (aH (au bb (ax aK (pv 1) ag (fun _ _=>rfl)) ay (wa _))
 (ae
 (cT (ax aK (pv 1) ag (fun _ _=>rfl)) (eI (pv 3) ag set_list))
 (ak
 (aA ay)))
 aB)
 (ae
 (aH (PW.pt (dJ (au cP (ax aK (pv 1) ag (fun _ _=>rfl)) ag (wa _)) (cM (au gH (ax aK (pv 1) ag (fun _ _=>rfl)) (ax av (pv 3) ag (fun _ _=>rfl)) (wa _)))))
 (ak
 (aA (ax av (a0 (aa ay (aa ay aj))) (bN eP rfl T.int iD (aa (eY cP (ax aK (pv 1) ag (fun _ _=>rfl)) ag (wa _)) aj)) (fun _ _=>rfl))))
 aB)
 (ae
 (cT (az cC (ax av (pv 3) ag (fun _ _=>rfl)) (ax aK (pv 1) ag (fun _ _=>rfl))) (eI (pv 3) ag set_list))
 (ak
 (aA (aV G__law_serve hr.mn rfl m__law_serve F__law_serve.kp b__law_serve .nil wg (aa (pv 0) (aa (ax av (pv 3) ag (fun _ _=>rfl)) aj)))))))))))))),?_⟩
 obtain ⟨ky,t,rs,ev,e0⟩:=se b dd h1
 have hx':=hx
 rw [ev] at hx'
 refine ⟨_,rfl,x,_,_,_,rfl,rfl,SqT.of hx',cU (j:=1) rfl,?_⟩
 have e1:¬ b.live t=true→b.done dd=(b,.str "no keeping"):=fun c=>e0 (Bool.eq_false_iff.mpr c)
 refine ⟨_,rfl,_,_,rfl,rfl,_,rfl,?_⟩
 refine wx (fun c=>?_) (fun c=>?_)
 ·rw [e1 fun z=>by have:=Ji c;have:=(ik.mp z).1;omega] at k
  exact xq (k H a _ (After.refl p) aN bA)
 have ea:(a.recs.map V.ref).length=b.all.length:=by rw [J9];exact p.recs.len
 refine ⟨_,rfl,_,rfl,d,_,rfl,p.gA,a.A,_,rfl,.inl (SqL.of p.all),_,_,rfl,rfl,_,rfl,?_⟩
 have c':¬ t<0:=fun z=>c (Je z)
 refine wx (fun c2=>?_) (fun c2=>?_)
 ·rw [e1 fun z=>by
   have q1:(((a.recs.map V.ref).length:Nat) : Int)≤t:=Ji c2
   have:=(ik.mp z).1.2
   rw [ea] at q1
   omega] at k
  exact xq (k H a _ (After.refl p) aN bA)
 have c2':¬ (((a.recs.map V.ref).length:Nat) : Int)≤t:=fun z=>c2 (Je z)
 rw [ea] at c2'
 clear c c2
 obtain ⟨n,rfl⟩:=Int.eq_ofNat_of_zero_le (Int.not_lt.mp c')
 have hn:n<b.all.length:=by omega
 obtain ⟨q,eq,hq⟩:=p.eM hn
 refine ⟨_,rfl,d,_,rfl,p.gA,_,rfl,a.A,_,_,_,rfl,rfl,SqL.of p.all,bG eq,q,_,_,_,rfl,rfl,SqL.of hq,rfl,rfl,_,rfl,?_⟩
 rw [show (decide (V.str (b.at n).st.txt=V.str "gone"))=decide ((b.at n).st=.gone) from jc _]
 refine wx (fun c=>?_) (fun c=>?_)
 ·rw [e1 fun z=>(ik.mp z).2 (Ji c)] at k
  exact k H a _ (After.refl p) aN bA
 have cg:¬ (b.at n).st=.gone:=fun z=>c (Je z)
 have lv:b.live (n:Nat)=true:=ik.mpr ⟨⟨by omega,by omega⟩,cg⟩
 have lf:¬ b.live (n:Nat)=false:=by rw [lv];decide
 clear c e0 e1
 refine ⟨_,rfl,d,_,rfl,p.gA,_,rfl,a.A,_,_,_,rfl,rfl,SqL.of p.all,bG eq,?_⟩
 cases dd with
 | keep _ _ _ _=>cases h1
 | clock _=>cases h1
 | free _=>cases h1
 | row _=>cases h1
 | state _=>cases h1
 | take m =>
  cases ev
  rw [pT,J0 lf,Jp] at k
  unfold vY.wW at k
  refine ⟨_,rfl,x,_,_,_,rfl,rfl,SqT.of hx',rfl,rfl,_,rfl,ifT (by decide +kernel) ?_⟩
  refine ⟨_,rfl,q,_,_,_,rfl,rfl,SqL.of hq,rfl,rfl,_,rfl,?_⟩
  rw [show (decide (V.str (b.at n).st.txt=V.str "held"))=decide ((b.at n).st=.held) from ip _]
  by_cases c:(b.at n).st=.held
  ·refine ifF (by rw [Je c];rfl) ?_
   rw [J3 c] at k
   refine ⟨_,rfl,q,_,_,4,rfl,rfl,hq,rfl,?_⟩
   have A2:=(After.refl p).recd { b.at n with st:=.taken } eq
   have e2:(upd H q (.lst (wL { b.at n with st:=.taken }))) q=some (.lst (wL { b.at n with st:=.taken })):=af
   refine wz (H':=upd H q (.lst (wL { b.at n with st:=.taken }))) rfl ?_
   generalize upd H q (.lst (wL { b.at n with st:=.taken }))=H2 at A2 e2
   refine ⟨_,rfl,q,_,_,5,rfl,rfl,e2,rfl,?_⟩
   have A3:=A2.recd { b.at n with st:=.taken,til:=none } eq
   have eb:(b.all.set n { b.at n with st:=.taken }).set n { b.at n with st:=.taken,til:=none }=b.all.set n { b.at n with st:=.taken,til:=none }:=List.set_set ..
   have A4:After H d a (upd H2 q (.lst (wL { b.at n with st:=.taken,til:=none }))) a { b with all:=b.all.set n { b.at n with st:=.taken,til:=none } }:=by rw [← eb];exact A3
   exact k _ a _ A4 aN bA
  ·refine ifT (by rw [Js c];rfl) ?_
   rw [J0 c] at k
   exact k H a _ (After.refl p) aN bA
 | back m =>
  cases ev
  rw [pU,J0 lf,Jp] at k
  refine ⟨_,rfl,x,_,_,_,rfl,rfl,SqT.of hx',rfl,rfl,_,rfl,ifF (by decide +kernel) ?_⟩
  refine ⟨_,rfl,x,_,_,_,rfl,rfl,SqT.of hx',rfl,rfl,_,rfl,ifT (by decide +kernel) ?_⟩
  refine ⟨_,rfl,_,rfl,d,a,b,n,rfl,p,O,hn,hl,fun H' l A1 h1 h2=>?_⟩
  exact k H' a _ A1 (dw (p.new h2) h1) (cY h2)
 | move m t =>
  cases ev
  rw [pW,J0 lf,Jp] at k
  refine ⟨_,rfl,x,_,_,_,rfl,rfl,SqT.of hx',rfl,rfl,_,rfl,ifF (by decide +kernel) ?_⟩
  refine ⟨_,rfl,x,_,_,_,rfl,rfl,SqT.of hx',rfl,rfl,_,rfl,ifF (by decide +kernel) ?_⟩
  refine ⟨_,rfl,x,_,_,_,rfl,rfl,SqT.of hx',rfl,rfl,_,rfl,ifT (by decide +kernel) ?_⟩
  exact ⟨_,rfl,_,rfl,_,rfl,x,_,_,_,rfl,rfl,SqT.of hx',rfl,d,a,b,n,t,rfl,p,O,hn,hl,k⟩
 | pass m u =>
  cases ev
  rw [pX,J0 lf,Jp] at k
  refine ⟨_,rfl,x,_,_,_,rfl,rfl,SqT.of hx',rfl,rfl,_,rfl,ifF (by decide +kernel) ?_⟩
  refine ⟨_,rfl,x,_,_,_,rfl,rfl,SqT.of hx',rfl,rfl,_,rfl,ifF (by decide +kernel) ?_⟩
  refine ⟨_,rfl,x,_,_,_,rfl,rfl,SqT.of hx',rfl,rfl,_,rfl,ifF (by decide +kernel) ?_⟩
  refine ⟨_,rfl,x,_,_,_,rfl,rfl,SqT.of hx',rfl,rfl,_,rfl,ifT (by decide +kernel) ?_⟩
  refine ⟨_,rfl,x,_,_,_,rfl,rfl,SqT.of hx',rfl,_,rfl,q,_,_,0,rfl,rfl,hq,rfl,?_⟩
  exact k _ a _ ((After.refl p).recd { b.at n with who:=u } eq) aN bA
 | part m t =>
  cases ev
  rw [pV,J0 lf,Jp] at k
  unfold vY.wV at k
  refine ⟨_,rfl,x,_,_,_,rfl,rfl,SqT.of hx',rfl,rfl,_,rfl,ifF (by decide +kernel) ?_⟩
  refine ⟨_,rfl,x,_,_,_,rfl,rfl,SqT.of hx',rfl,rfl,_,rfl,ifF (by decide +kernel) ?_⟩
  refine ⟨_,rfl,x,_,_,_,rfl,rfl,SqT.of hx',rfl,rfl,_,rfl,ifF (by decide +kernel) ?_⟩
  refine ⟨_,rfl,x,_,_,_,rfl,rfl,SqT.of hx',rfl,rfl,_,rfl,ifF (by decide +kernel) ?_⟩
  have told:∀ H',wm H H'→(t<1∨(b.at n).many≤t)→∃ v,atI [V.str "too many",V.str "no places"] (if decide (t<1)=true then 1 else 0)=some v∧Q v H':=fun H' g h=>by
   by_cases c:t<1
   ·rw [J3 c] at k
    rw [Je c]
    exact ⟨_,rfl,k H' a _ ((After.refl p).same g) aN bA⟩
   ·rw [J0 c,J3 (h.resolve_left c)] at k
    rw [Js c]
    exact ⟨_,rfl,k H' a _ ((After.refl p).same g) aN bA⟩
  refine ⟨_,rfl,x,_,_,_,rfl,rfl,SqT.of hx',rfl,_,_,rfl,rfl,_,rfl,?_⟩
  refine wx (fun c=>?_) (fun c=>?_)
  ·refine xq ⟨(by show 2≤sizeLine;decide),fun z hz=>?_⟩
   obtain ⟨v,e,kk⟩:=told _ (ai hz (.lst [V.str "too many",V.str "no places"])) (.inl (Ji c))
   exact ⟨_,rfl,x,_,_,_,rfl,rfl,SqT.of (ai hz _ _ _ hx'),rfl,_,_,rfl,rfl,.inr ⟨_,rfl,z,_,_,_,rfl,rfl,SqL.of af,e,kk⟩⟩
  refine ⟨_,rfl,x,_,_,_,rfl,rfl,SqT.of hx',rfl,_,rfl,q,_,_,_,rfl,rfl,SqL.of hq,rfl,_,_,rfl,rfl,_,rfl,?_⟩
  refine wx (fun c2=>?_) (fun c2=>?_)
  ·refine ⟨(by show 2≤sizeLine;decide),fun z hz=>?_⟩
   obtain ⟨v,e,kk⟩:=told _ (ai hz (.lst [V.str "too many",V.str "no places"])) (.inr (Ji c2))
   exact ⟨_,rfl,x,_,_,_,rfl,rfl,SqT.of (ai hz _ _ _ hx'),rfl,_,_,rfl,rfl,.inr ⟨_,rfl,z,_,_,_,rfl,rfl,SqL.of af,e,kk⟩⟩
  rw [J0 fun z=>c (Je z),J0 fun z=>c2 (Je z)] at k
  refine ⟨_,rfl,q,_,_,_,rfl,rfl,SqL.of hq,rfl,_,rfl,x,_,_,_,rfl,rfl,SqT.of hx',rfl,_,_,rfl,rfl,_,rfl,q,_,_,2,rfl,rfl,hq,rfl,?_⟩
  have A3:=(After.refl p).recd { b.at n with many:=(b.at n).many-t } eq
  have e3:(upd H q (.lst (wL { b.at n with many:=(b.at n).many-t }))) q=some (.lst (wL { b.at n with many:=(b.at n).many-t })):=af
  refine wz (H':=upd H q (.lst (wL { b.at n with many:=(b.at n).many-t }))) rfl ?_
  generalize upd H q (.lst (wL { b.at n with many:=(b.at n).many-t }))=H3 at A3 e3
  have O3:=O.put (r:={ b.at n with many:=(b.at n).many-t }) hn (O.shw n hn) Iff.rfl (fun _=>rfl) (O.til n hn)
  refine ⟨_,rfl,_,rfl,q,_,_,_,rfl,rfl,SqL.of e3,rfl,d,a,_,(b.at n).shw,rfl,A3.pic,O.shw n hn,fun m hm=>(O3.row _ m hm).1,Ju (O3.len _) (by show (b.all.set _ _).length≤_;rw [Jt];exact hl),fun H4 l A5 hl4 hl3=>?_⟩
  exact k H4 a _ (A3.trans A5) (dw (A3.pic.new hl3) hl4) (cY (dW A3.keep A3.ext A3.pic (fun _ h=>h) hl3))
end
end Kp
namespace Kp
open PySem L2
theorem After.out {H H1:Hp} {d:Addr} {a a1:Adr} {b1:vY} (A:After H d a H1 a1 b1) {q:Addr} (nq:q∉a1.R::foot d a1) (hq:H q=none) (o:HO) : After H d a (upd H1 q o) a1 b1:=⟨A.pic.yV nq,A.keep.put (.inr hq) o,A.ext,A.rm⟩
theorem pY (t:Int) (r:Rec) (k:Nat) : (xn t r k).length≤1:=by
 unfold xn
 cases r.st <;> cases r.til <;> try exact Nat.zero_le _
 dsimp only
 rename_i u
 by_cases c:u≤t
 ·rw [J3 c];exact Jm _
 ·rw [J0 c];exact Nat.zero_le _
theorem gr (t:Int) : ∀ (k:Nat) (rs:List Rec),(heldBy t k rs).length≤rs.length
 | k,[]=>Jm _
 | k,r::rs=>by
  rw [cQ,Jc,Jy]
  have:=pY t r k
  have:=gr t (k+1) rs
  omega
def xa (t:Int × Nat × Bool) : Dt:=.tup [.int t.1,.int (t.2.1:Nat),.str (if t.2.2=true then "held" else "lapsed")]
theorem mI (ts:Told) : w9 ts=.lst (ts.map xa):=rfl
def zg:Sp:=fun vs H Q _=>∃ (d:Addr) (a:Adr) (b:vY) (t:Int),vs=[.ref d,.int t]∧Pic H d a b∧b.Ok∧b.all.length<64∧zB H d a (b.done (.clock t)) Q
theorem nL (b:vY) (t:Int) : b.done (.clock t)=if t<b.now then (b,.str "too early") else ((b.clock t).1,w9 (b.clock t).2):=rfl
section
variable {P:Program} {w:World} {K:Ay} {mg:Str→Option Value} {base:Heap}
theorem bK:wb ["_law_state","_law_time","_law_made","_law_held","_law_number","_law_one","_law_until","_law_other"] ["_law_state","_law_time"] (vZ zc):=L2.wy rfl rfl rfl rfl (by decide +kernel)
theorem sf {f f2:Addr} {fd fd2:FuncData} (F:Fun K "_law_clock" "_law_clock" zc f fd) (T:Blt mg)
  (F__law_gone:Fun K "_law_gone" "_law_gone" zE f2 fd2) (b__law_gone:Binds K fd2 ["_law_state","_law_number"] []) (m__law_gone:mg "_law_gone" = some (.ref f2))
  (G__law_gone:we P w K mg base CX0 3 f2 fd2 ["_law_state","_law_number"] ze) :
  we P w K mg base CX0 4 f fd ["_law_state","_law_time"] zg:=by
 refine F.ok bK (fun vs H Q E h=>?_) (fun cdv A outer s H vs Q E hr h=>?_)
 ·obtain ⟨d,a,b,t,rfl,_⟩:=h
  rfl
 obtain ⟨d,a,b,t,rfl,p,O,hl,k⟩:=h
 refine ⟨_,    (ae
 (aH (au cP (pv 1) (a8 (bM hr) (pv 0) ay (fun _ _=>rfl)) (wa _))
 (ak
 (aA ay))
 aB)
 (ae
 (aC (i:=2) bK.nd rfl (Or.inl rfl) (a0 aj))
 (ak
 (gG PassesOwn.never (dZ dI)
 (ae
 (aC (i:=3) bK.nd rfl (Or.inl rfl) (a0 aj))
 (ae
 (bU PassesOwn.never rfl (dS rfl T.range (aa (aJ aG rfl T.len bF (aa (a8 (bM hr) (pv 0) ay (fun _ _=>rfl)) aj)) aj)) (aO (i:=4) bK.nd rfl (Or.inl rfl))
 (ae
 (aC (i:=5) bK.nd rfl (Or.inl rfl) (ax av (a8 (bM hr) (pv 0) ay (fun _ _=>rfl)) (pv 4) (fun _ _=>rfl)))
 (ak
 (aH (PW.pt (iB (au bb (ax av (pv 5) ag (fun _ _=>rfl)) ay (wa _)) (fS (au lZ (ax av (pv 5) ag (fun _ _=>rfl)) (pv 1) (wa _)))))
 (ak
 (aF (bP Jl Jq Jr aX (pv 3) (aa (bu (aa (ax av (pv 5) ag (fun _ _=>rfl)) (aa (pv 4) aj))) aj))))
 aB))))
 (ae
 (aH (au (qT hr.yA) (pv 3) (a0 aj) (wa _))
 (ae
 (oq (bM hr) (pv 0) ay (pv 1) rfl)
 (ak
 (aA (pv 2))))
 aB)
 (ae
 (cT (ax av (aJ lr rfl T.sorted o8 (aa (pv 3) aj)) ag (fun _ _=>rfl)) (kO rfl (cE (aO (i:=6) bK.nd rfl (Or.inl rfl)) (cE (aO (i:=4) bK.nd rfl (Or.inl rfl)) i5))))
 (ae
 (oq (bM hr) (pv 0) ay (pv 6) rfl)
 (ae
 (aF (bP Jl Jq Jr aX (pv 2) (aa (bu (aa (pv 6) (aa (pv 4) (aa ay aj)))) aj)))
 (ak
 (bU PassesOwn.never rfl (bC (aV G__law_gone hr.mn rfl m__law_gone F__law_gone.kp b__law_gone .nil wg (aa (pv 0) (aa (pv 4) aj)))) (aO (i:=7) bK.nd rfl (Or.inl rfl))
 (ak
 (aF (bP Jl Jq Jr aX (pv 2) (aa (bu (aa (pv 6) (aa (pv 7) (aa ay aj)))) aj)))))))))))))))),?_⟩
 rw [nL] at k
 refine ⟨_,rfl,_,rfl,d,_,rfl,p.gN,_,_,rfl,rfl,_,rfl,?_⟩
 refine wx (fun c=>?_) (fun c=>?_)
 ·rw [J3 (Ji c)] at k
  exact k H a _ (After.refl p) aN bA
 rw [J0 fun z=>c (Je z)] at k
 clear c
 refine ⟨(by show 0≤sizeLine;decide),fun l hl0=>?_⟩
 have A1:=(After.refl p).same (ai hl0 (.lst []))
 have l1:(upd H l (.lst [])) l=some (.lst ([] : List V)):=af
 have nl:=p.new hl0
 generalize upd H l (.lst [])=H1 at A1 l1
 refine ⟨fun m σ H2=>∃ (v3 v4 v5 v6 v7:Option V) (b2:vY) (ts:Told) (xs:List V),σ=[some (.ref d),some (.int t),some (.ref l),v3,v4,v5,v6,v7]∧After H d a H2 a b2∧b2.Ok∧b2.all.length=b.all.length∧H2 l=some (.lst xs)∧wt (l::foot d a) H2 (ts.map xa) xs ∧
   wA b2.all≤m∧b.clock t=((b2.wj t m).1,ts++(b2.wj t m).2)∧xs.length+100*m≤10000,
  ⟨_,none,none,none,none,none,b,[],[],rfl,A1,O,rfl,l1,bD,bg b,rfl,by simp;omega⟩,?_⟩
 rintro m σ H2 ⟨v3,v4,v5,v6,v7,b2,ts,xs,rfl,A2,O2,el2,l2,r2,hm,hcl,hsz⟩
 have nlR:l∉a.R::foot d a:=fun z=>(List.mem_cons.mp z).elim (fun z=>by rw [z,p.rooms] at hl0;cases hl0) nl
 refine ⟨true,rfl,xq ⟨fun σ' H'=>∃ m',m'<m∧∃ (v3 v4 v5 v6 v7:Option V) (b2:vY) (ts:Told) (xs:List V),σ'=[some (.ref d),some (.int t),some (.ref l),v3,v4,v5,v6,v7]∧After H d a H' a b2∧b2.Ok∧b2.all.length=b.all.length∧H' l=some (.lst xs)∧wt (l::foot d a) H' (ts.map xa) xs ∧
   wA b2.all≤m'∧b.clock t=((b2.wj t m').1,ts++(b2.wj t m').2)∧xs.length+100*m'≤10000,fun _ _ h=>h,?_⟩⟩
 refine ⟨(by show 0≤sizeLine;decide),fun q hq=>?_⟩
 have hqH:H q=none:=dW A2.keep A2.ext A2.pic (fun _ h=>h) hq
 have nq:=A2.pic.new hq
 have nqR:q∉a.R::foot d a:=fun z=>(List.mem_cons.mp z).elim (fun z=>by rw [z,A2.pic.rooms] at hq;cases hq) nq
 have nql:q≠l:=fun z=>by rw [z,l2] at hq;cases hq
 have A3:=A2.same (ai hq (.lst []))
 have l3:=ai hq (.lst []) _ _ l2
 have q3:(upd H2 q (.lst [])) q=some (.lst (([] : List (Addr × Int × Int)).map fun e=>V.ref e.1)):=af
 have r3:wt (q::l::foot d a) (upd H2 q (.lst [])) (ts.map xa) xs:=r2.step (xy (ai hq _)) (Ext.cons hq)
 generalize upd H2 q (.lst [])=H3 at A3 l3 q3 r3
 have ea:(a.recs.map V.ref).length=b2.all.length:=by rw [J9];exact A2.pic.recs.len
 refine ⟨_,rfl,d,_,rfl,A3.pic.gA,a.A,_,rfl,.inl (SqL.of A3.pic.all),_,rfl,?_,?_,?_⟩
 ·rw [ea];omega
 ·rw [ea];omega
 rw [ea,Jp]
 refine cO (lo:=0) (n:=b2.all.length) (fun i σ H4=>∃ (v4 v5:Option V) (es:List (Addr × Int × Int)),σ=[some (.ref d),some (.int t),some (.ref l),some (.ref q),v4,v5,v6,v7]∧After H d a H4 a b2∧H4 l=some (.lst xs)∧wt (q::l::foot d a) H4 (ts.map xa) xs ∧
   H4 q=some (.lst (es.map fun e=>V.ref e.1))∧(∀ e∈es,H4 e.1=some (.tup [.int e.2.1,.int e.2.2]))∧es.map (·.2)=(heldBy t 0 (b2.all.take i)).map fun x=>(x.1,((x.2:Nat) : Int)))
  ⟨v4,v5,[],rfl,A3,l3,r3,q3,(fun e h=>by cases h),by rw [List.take_zero];rfl⟩ ?_ ?_
 ·rintro i σ H4 hi ⟨v4,v5,es,rfl,A4,l4,r4,q4,e4,me⟩
  rw [Int.zero_add]
  obtain ⟨z,ez,hz⟩:=A4.pic.eM hi
  have et:b2.all.take (i+1)=b2.all.take i++[b2.at i]:=by rw [List.take_add_one,Ja hi,Option.toList_some,gm hi]
  have lt:(b2.all.take i).length=i:=by rw [Y4];omega
  rw [et,iR,lt,Nat.zero_add]
  refine ⟨_,rfl,d,_,rfl,A4.pic.gA,_,rfl,a.A,_,_,_,rfl,rfl,SqL.of A4.pic.all,bG ez,?_⟩
  refine ⟨_,rfl,z,_,_,_,rfl,rfl,SqL.of hz,rfl,rfl,_,rfl,?_⟩
  rw [show (decide (V.str (b2.at i).st.txt=V.str "held"))=decide ((b2.at i).st=.held) from ip _]
  have skip:xn t (b2.at i) i=[]→∃ (v4 v5:Option V) (es:List (Addr × Int × Int)),[some (V.ref d),some (.int t),some (.ref l),some (.ref q),some (.int (i:Nat)),some (.ref z),v6,v7]=[some (.ref d),some (.int t),some (.ref l),some (.ref q),v4,v5,v6,v7]∧After H d a H4 a b2∧H4 l=some (.lst xs)∧wt (q::l::foot d a) H4 (ts.map xa) xs ∧
   H4 q=some (.lst (es.map fun e=>V.ref e.1))∧(∀ e∈es,H4 e.1=some (.tup [.int e.2.1,.int e.2.2]))∧es.map (·.2)=(heldBy t 0 (b2.all.take i)++xn t (b2.at i) i).map fun x=>(x.1,((x.2:Nat) : Int)):=fun e =>
   ⟨_,_,es,rfl,A4,l4,r4,q4,e4,by rw [e,List.append_nil];exact me⟩
  refine wx (fun c=>?_) (fun c=>?_)
  ·have c':=Ji c
   obtain ⟨u,hu⟩:=Option.ne_none_iff_exists'.mp ((O2.til i hi).mp c')
   refine ⟨_,rfl,z,_,_,_,rfl,rfl,SqL.of hz,rfl,_,rfl,u,_,(by rw [hu];rfl),rfl,_,rfl,?_⟩
   refine wx (fun c2=>?_) (fun c2=>?_)
   ·have c2':u≤t:=Ji c2
    have el:xn t (b2.at i) i=[(u,i)]:=by unfold xn;rw [c',hu];dsimp only;rw [J3 c2']
    refine ⟨_,rfl,.inl ⟨rfl,_,SqL.of q4⟩,_,rfl,z,_,_,_,rfl,rfl,SqL.of hz,rfl,_,rfl,(by show 2≤sizeLine;decide),fun y hy=>?_⟩
    have ny:y≠q:=fun e=>by rw [e,q4] at hy;cases hy
    have A5:=A4.same (ai hy (.tup [xr (b2.at i).til,.int (i:Nat)]))
    have l5:=ai hy (.tup [xr (b2.at i).til,.int (i:Nat)]) _ _ l4
    have q5:=ai hy (.tup [xr (b2.at i).til,.int (i:Nat)]) _ _ q4
    have y5:(upd H4 y (.tup [xr (b2.at i).til,.int (i:Nat)])) y=some (.tup [.int u,.int (i:Nat)]):=by rw [af,hu];rfl
    have e5:∀ e∈es,(upd H4 y (.tup [xr (b2.at i).til,.int (i:Nat)])) e.1=some (.tup [.int e.2.1,.int e.2.2]):=fun e he=>ai hy _ _ _ (e4 e he)
    have r5:=r4.same (ai hy (.tup [xr (b2.at i).til,.int (i:Nat)]))
    refine ⟨q,_,_,rfl,rfl,q5,?_,?_⟩
    ·have lm:=congrArg List.length me
     rw [J9,J9] at lm
     have:=gr t 0 (b2.all.take i)
     exact big (by rw [J9];omega)
    refine wz (H':=upd (upd H4 y (.tup [xr (b2.at i).til,.int (i:Nat)])) q (.lst ((es++[(y,u,((i:Nat) : Int))]).map fun e=>V.ref e.1))) (by rw [Jz];rfl) ?_
    generalize upd H4 y (.tup [xr (b2.at i).til,.int (i:Nat)])=H5 at A5 l5 q5 y5 e5 r5
    refine ⟨_,_,es++[(y,u,((i:Nat) : Int))],rfl,A5.out nqR hqH _,by rw [ao (Ne.symm nql)];exact l5,r5.step (wH.refl.put (.inl Jb) _) Ext.refl,af,fun e he=>?_,by rw [Jz,me,el,Jz];rfl⟩
    rcases Y1.mp he with he | he
    ·rw [ao (bS (e5 e he) q5 (by intro z;cases z))]
     exact e5 e he
    ·rw [Y5.mp he,ao ny]
     exact y5
   ·exact skip (by unfold xn;rw [c',hu];dsimp only;rw [J0 fun z=>c2 (Je z)])
  ·refine yo (skip ?_)
   unfold xn
   cases e:(b2.at i).st <;> first | rfl | (exact absurd (Je e) c)
 ·rintro σ H4 ⟨v4,v5,es,rfl,A4,l4,r4,q4,e4,me⟩
  rw [Y8] at me
  refine ⟨_,rfl,(by show 0≤sizeLine;decide),fun z hz=>⟨q,z,_,rfl,rfl,SqL.of (ai hz _ _ _ q4),af,_,rfl,?_⟩⟩
  have A5:=A4.same (ai hz (.lst []))
  have l5:=ai hz (.lst []) _ _ l4
  have q5:=ai hz (.lst []) _ _ q4
  have e5:∀ e∈es,(upd H4 z (.lst [])) e.1=some (.tup [.int e.2.1,.int e.2.2]):=fun e he=>ai hz _ _ _ (e4 e he)
  have r5:wt (l::foot d a) _ (ts.map xa) xs:=r4.step (xy (ai hz (.lst []))) Ext.drop
  generalize upd H4 z (.lst [])=H5 at A5 l5 q5 e5 r5
  cases hh:b2.first t with
  | none =>
   have en:es=[]:=by
    rw [fg hh] at me
    exact List.map_eq_nil_iff.mp me
   subst en
   refine xq ?_
   rw [bf hh,List.append_nil] at hcl
   refine ⟨_,rfl,_,rfl,d,_,rfl,As.k (k:=Sum.inr "now") A5.pic.dict (big (by show 4≤_;decide)),?_⟩
   refine wz (H':=upd H5 d (.dK (xf a t))) (by rw [oy]) ?_
   have dl:d≠l:=fun e=>nl (by rw [← e];unfold foot;exact Jb)
   have A6:=A5.now t
   have l6:(upd H5 d (.dK (xf a t))) l=some (.lst xs):=by rw [ao dl.symm];exact l5
   have r6:wt (foot d a) (upd H5 d (.dK (xf a t))) (ts.map xa) xs:=r5.step (wH.refl.put (.inl (Jd _ (by unfold foot;exact Jb))) _) Ext.drop
   refine ⟨_,rfl,k _ a _ ?_ ?_ (cY hl0)⟩
   ·rw [hcl];exact A6
   ·rw [hcl,mI];exact fb nl l6 r6
  | some un =>
   obtain ⟨u,n⟩:=un
   obtain ⟨hn,hst,htil,hut⟩:=bw hh
   obtain ⟨hmem,hmin⟩:=cx hh
   have ne:es≠[]:=fun e=>by
    rw [e] at me
    rw [List.map_eq_nil_iff.mp me.symm] at hmem
    cases hmem
   have elen:es.length≤b2.all.length:=by
    have:=congrArg List.length me
    rw [J9,J9] at this
    have:=gr t 0 b2.all
    omega
   have epos : 1≤es.length:=List.length_pos_iff.mpr ne
   refine ifF (by cases es with
    | nil=>exact absurd rfl ne
    | cons x y=>rfl) ?_
   refine ⟨_,rfl,q,es,rfl,SqL.of q5,fun e he=>SqT.of (e5 e he),epos,(by omega),fun y e rest hy hem hle=>?_⟩
   have ee:e.2=(u,((n:Nat) : Int)):=by
    have m1:e.2∈es.map (·.2):=List.mem_map_of_mem hem
    rw [me] at m1
    obtain ⟨x,hx,ex⟩:=Yj.mp m1
    have m2:(u,((n:Nat) : Int))∈es.map (·.2):=by
     rw [me]
     exact Yj.mpr ⟨(u,n),hmem,rfl⟩
    obtain ⟨e',he',ee'⟩:=Yj.mp m2
    have h1:=jv.mp (hle e' he')
    have h2:=hmin x hx
    rw [ee',← ex] at h1
    dsimp only at h1 h2
    rw [← ex]
    have g1:x.1=u:=by omega
    have g2:x.2=n:=by omega
    rw [g1,g2]
   have A6:=A5.same (ai hy (.lst (V.ref e.1::rest)))
   have l6:=ai hy (.lst (V.ref e.1::rest)) _ _ l5
   have r6:=r5.same (ai hy (.lst (V.ref e.1::rest)))
   have e6:=ai hy (.lst (V.ref e.1::rest)) _ _ (e5 e hem)
   rw [ee] at e6
   refine ⟨y,_,_,_,rfl,rfl,SqL.of af,at0,e.1,_,rfl,SqT.of e6,rfl,_,_,rfl,_,_,rfl,rfl,?_⟩
   generalize upd H5 y (.lst (V.ref e.1::rest))=H6 at A6 l6 r6
   refine ⟨_,rfl,_,rfl,d,_,rfl,As.k (k:=Sum.inr "now") A6.pic.dict (big (by show 4≤_;decide)),?_⟩
   refine wz (H':=upd H6 d (.dK (xf a u))) (by rw [oy]) ?_
   have dl:d≠l:=fun e=>nl (by rw [← e];unfold foot;exact Jb)
   have A7:=A6.now u
   have l7:(upd H6 d (.dK (xf a u))) l=some (.lst xs):=by rw [ao dl.symm];exact l6
   have r7:wt (l::foot d a) (upd H6 d (.dK (xf a u))) (ts.map xa) xs:=r6.step (wH.refl.put (.inl (Jd _ (by unfold foot;exact Jb))) _) Ext.refl
   generalize upd H6 d (.dK (xf a u))=H7 at A7 l7 r7
   refine ⟨_,rfl,.inl ⟨rfl,_,SqL.of l7⟩,_,rfl,_,rfl,(by show 3≤sizeLine;decide),fun x hx=>?_⟩
   have nx:x≠l:=fun e=>by rw [e,l7] at hx;cases hx
   have nxf:x∉l::foot d a:=fun z=>(List.mem_cons.mp z).elim nx (A7.pic.new hx)
   have A8:=A7.same (ai hx (.tup [.int u,.int (n:Nat),.str "lapsed"]))
   have l8:=ai hx (.tup [.int u,.int (n:Nat),.str "lapsed"]) _ _ l7
   have r8:=r7.same (ai hx (.tup [.int u,.int (n:Nat),.str "lapsed"]))
   have x8:(upd H7 x (.tup [.int u,.int (n:Nat),.str "lapsed"])) x=some (.tup [.int u,.int (n:Nat),.str "lapsed"]):=af
   refine ⟨l,_,_,rfl,rfl,l8,big (by omega),?_⟩
   generalize upd H7 x (.tup [.int u,.int (n:Nat),.str "lapsed"])=H8 at A8 l8 r8 x8
   have A9:=A8.out nlR hl0 (.lst (xs++[.ref x]))
   have l9:(upd H8 l (.lst (xs++[.ref x]))) l=some (.lst (xs++[.ref x])):=af
   have r9:wt (l::foot d a) (upd H8 l (.lst (xs++[.ref x]))) ((ts++[(u,n,false)]).map xa) (xs++[.ref x]):=by
    rw [Jz]
    exact wt.snoc (dO nxf (by rw [ao nx];exact x8) (aI bE (aI bE (aI aN bD)))) (r8.step (wH.refl.put (.inl Jb) _) Ext.refl)
   generalize upd H8 l (.lst (xs++[.ref x]))=H9 at A9 l9 r9
   have O9:=O2.now u
   have S9:=bQ O9 (n:=n) hn
   have sh9:=cu (cW O9 (n:=n) hn) (cv O9 (n:=n) hn)
   rw [← cX,d8] at sh9
   replace sh9:(vY.leave { b2 with now:=u } n).2.length≤b2.all.length:=sh9
   obtain ⟨jj,ej,ecl,hlv⟩:=ba hh O2 hm
   refine ⟨_,rfl,_,rfl,d,a,{ b2 with now:=u },n,rfl,A9.pic,O9,hn,(by show b2.all.length≤_;omega),fun H10 l2 B10 hl10 hl9=>?_⟩
   have nl2:l2≠l:=fun e=>by rw [e,l9] at hl9;cases hl9
   have A10:=A9.trans B10
   have l10:=B10.keep _ _ l9 nl
   have r10:wt (l::foot d a) H10 ((ts++[(u,n,false)]).map xa) (xs++[.ref x]):=(r9.step B10.keep.more Ext.refl)
   generalize hsv:vY.leave { b2 with now:=u } n=sv at A10 hl10 S9 sh9 ecl hlv
   refine ⟨l2,rfl,⟨_,SqL.of hl10⟩,bZ (K:=K) (a:=l2) (xs:=sv.2.map nv) (fun i σ H11=>∃ (v7:Option V) (ys:List V),σ=[some (.ref d),some (.int t),some (.ref l),some (.ref q),some (.int (n:Nat)),v5,some (.int u),v7]∧After H d a H11 a sv.1∧H11 l=some (.lst ys) ∧
     wt (l::foot d a) H11 ((ts++[(u,n,false)]++(sv.2.take i).map fun m=>(u,m,true)).map xa) ys∧H11 l2=some (.lst (sv.2.map nv))∧ys.length=xs.length+1+i)
    ⟨v7,_,rfl,A10,l10,by rw [List.take_zero,List.map_nil,List.append_nil];exact r10,hl10,by simp⟩ (fun i σ H11 _ ⟨_,_,_,_,_,_,g,_⟩=>SqL.of g) ?_ ?_⟩
   ·rintro i w σ H11 hi ⟨v7,ys,rfl,A11,l11,r11,hl11,hys⟩
    rw [Jw] at hi
    cases ei:sv.2[i]? with
    | none=>rw [ei] at hi;cases hi
    | some o =>
     rw [ei] at hi
     cases hi
     have hil:=(Jg.mp ei).1
     have et:sv.2.take (i+1)=sv.2.take i++[o]:=by rw [List.take_add_one,ei,Option.toList_some]
     refine ⟨_,rfl,.inl ⟨rfl,_,SqL.of l11⟩,_,rfl,_,rfl,(by show 3≤sizeLine;decide),fun x hx=>?_⟩
     have nx:x≠l:=fun e=>by rw [e,l11] at hx;cases hx
     have nxf:x∉l::foot d a:=fun z=>(List.mem_cons.mp z).elim nx (A11.pic.new hx)
     have A12:=A11.same (ai hx (.tup [.int u,nv o,.str "held"]))
     have l12:=ai hx (.tup [.int u,nv o,.str "held"]) _ _ l11
     have m12:=ai hx (.tup [.int u,nv o,.str "held"]) _ _ hl11
     have r12:=r11.same (ai hx (.tup [.int u,nv o,.str "held"]))
     have x12:(upd H11 x (.tup [.int u,nv o,.str "held"])) x=some (.tup [.int u,nv o,.str "held"]):=af
     refine ⟨l,_,_,rfl,rfl,l12,big (by omega),?_⟩
     generalize upd H11 x (.tup [.int u,nv o,.str "held"])=H12 at A12 l12 r12 x12 m12
     refine ⟨some (nv o),ys++[.ref x],rfl,A12.out nlR hl0 _,af,?_,by rw [ao nl2];exact m12,by rw [Jc,Jo,hys];omega⟩
     rw [et,show ts++[(u,n,false)]++List.map (fun m=>(u,m,true)) (sv.2.take i++[o])=(ts++[(u,n,false)]++List.map (fun m=>(u,m,true)) (sv.2.take i))++[(u,o,true)] by simp,Jz]
     exact wt.snoc (dO nxf (by rw [ao nx];exact x12) (aI bE (aI bE (aI aN bD)))) (r12.step (wH.refl.put (.inl Jb) _) Ext.refl)
   ·rintro σ H11 ⟨v7,ys,rfl,A11,l11,r11,hl11,hys⟩
    rw [J9] at r11 hys
    rw [Y8] at r11
    refine ⟨jj,by omega,_,_,_,_,_,sv.1,_,ys,rfl,A11,S9.ok,S9.len.trans el2,l11,r11,hlv,?_,?_⟩
    ·rw [hcl,ej] at *
     rw [ecl]
     simp
    ·have:b2.all.length<64:=by omega
     have q1:sv.2.length≤b2.all.length:=sh9
     omega
end
end Kp
namespace Kp
open PySem L2
def zh:Sp:=fun vs H Q _=>∃ (d:Addr) (a:Adr) (b:vY) (x:Addr) (dd:wd),vs=[.ref d,.ref x]∧H x=some (.tup dd.vs)∧Pic H d a b∧b.Ok∧b.all.length<64∧zB H d a (b.done dd) Q
theorem zB.same {H H1:Hp} {d:Addr} {a:Adr} {b:vY} {o:vY × Dt} {Q:VK} (k:zB H d a o Q) (P:Pic H d a b) (g:wm H H1) : zB H1 d a o Q:=fun H' a' v A r f=>k H' a' v (((After.refl P).same g).trans A) r fun q e=>g.free (f q e)
theorem pZ (b:vY) (s:Int) : b.done (.free s)=if b.wo s=false then (b,.str "no show") else (b,.int (b.spare s.toNat)):=rfl
theorem si (b:vY) (s:Int) : b.done (.row s)=if b.wo s=false then (b,.str "no show") else (b,wY (b.rows.getD s.toNat [])):=rfl
theorem nM (b:vY) (n:Int) : b.done (.state n)=if b.wZ n=false then (b,.str "no keeping") else (b,.tup [.str (b.at n.toNat).who,.int ((b.at n.toNat).shw:Nat),.int (b.at n.toNat).many,.str (b.at n.toNat).st.txt,x5 (b.at n.toNat).til]):=rfl
section
variable {P:Program} {w:World} {K:Ay} {mg:Str→Option Value} {base:Heap}
theorem iq:wb ["_law_state","_law_deed","_law_one"] ["_law_state","_law_deed"] (vZ Ae):=L2.wy rfl rfl rfl rfl (by decide +kernel)
theorem uF {f f1 f2 f3 f4:Addr} {fd fd1 fd2 fd3 fd4:FuncData} (F:Fun K "_law_done" "_law_done" Ae f fd) (T:Blt mg)
  (F__law_entered:Fun K "_law_entered" "_law_entered" xX f1 fd1) (b__law_entered:Binds K fd1 ["_law_state","_law_deed"] []) (m__law_entered:mg "_law_entered" = some (.ref f1))
  (G__law_entered:we P w K mg base CX0 3 f1 fd1 ["_law_state","_law_deed"] x9)
  (F__law_clock:Fun K "_law_clock" "_law_clock" zc f2 fd2) (b__law_clock:Binds K fd2 ["_law_state","_law_time"] []) (m__law_clock:mg "_law_clock" = some (.ref f2))
  (G__law_clock:we P w K mg base CX0 4 f2 fd2 ["_law_state","_law_time"] zg)
  (F__law_spare:Fun K "_law_spare" "_law_spare" x6 f3 fd3) (b__law_spare:Binds K fd3 ["_law_state","_law_show"] []) (m__law_spare:mg "_law_spare" = some (.ref f3))
  (G__law_spare:we P w K mg base CX0 1 f3 fd3 ["_law_state","_law_show"] xZ)
  (F__law_with_one:Fun K "_law_with_one" "_law_with_one" xY f4 fd4) (b__law_with_one:Binds K fd4 ["_law_state","_law_deed"] []) (m__law_with_one:mg "_law_with_one" = some (.ref f4))
  (G__law_with_one:we P w K mg base CX0 4 f4 fd4 ["_law_state","_law_deed"] ya) :
  we P w K mg base CX0 5 f fd ["_law_state","_law_deed"] zh:=by
 refine F.ok iq (fun vs H Q E h=>?_) (fun cdv A outer s H vs Q E hr h=>?_)
 ·obtain ⟨d,a,b,x,dd,rfl,_⟩:=h
  rfl
 obtain ⟨d,a,b,x,dd,rfl,hx,p,O,hl,k⟩:=h
 refine ⟨_,    (ae
 (aH (au bb (ax aK (pv 1) ag (fun _ _=>rfl)) ay (wa _))
 (ak
 (aA (aV G__law_entered hr.mn rfl m__law_entered F__law_entered.kp b__law_entered .nil wg (aa (pv 0) (aa (pv 1) aj)))))
 aB)
 (ae
 (aH (au bb (ax aK (pv 1) ag (fun _ _=>rfl)) ay (wa _))
 (ak
 (aA (aV G__law_clock hr.mn rfl m__law_clock F__law_clock.kp b__law_clock .nil wg (aa (pv 0) (aa (ax aK (pv 1) ag (fun _ _=>rfl)) aj)))))
 aB)
 (ae
 (aH (au j9 (ax aK (pv 1) ag (fun _ _=>rfl)) (a0 (aa ay (aa ay aj))) (by with_unfolding_all rfl))
 (ae
 (aH (PW.pt (dJ (au cP (ax aK (pv 1) ag (fun _ _=>rfl)) ag (wa _)) (cM (au gH (ax aK (pv 1) ag (fun _ _=>rfl)) (aJ aG rfl T.len bF (aa (a8 (bM hr) (pv 0) ay (fun _ _=>rfl)) aj)) (wa _)))))
 (ak
 (aA ay))
 aB)
 (ae
 (aH (au bb (ax aK (pv 1) ag (fun _ _=>rfl)) ay (wa _))
 (ak
 (aA (aV G__law_spare hr.mn rfl m__law_spare F__law_spare.kp b__law_spare .nil wg (aa (pv 0) (aa (ax aK (pv 1) ag (fun _ _=>rfl)) aj)))))
 aB)
 (ak
 (aA (bN bV rfl T.list cK (aa (ax av (a8 (bM hr) (pv 0) ay (fun _ _=>rfl)) (ax aK (pv 1) ag (fun _ _=>rfl)) (fun _ _=>rfl)) aj))))))
 aB)
 (ae
 (aH (au bb (ax aK (pv 1) ag (fun _ _=>rfl)) ay (wa _))
 (ae
 (aH (PW.pt (dJ (au cP (ax aK (pv 1) ag (fun _ _=>rfl)) ag (wa _)) (cM (au gH (ax aK (pv 1) ag (fun _ _=>rfl)) (aJ aG rfl T.len bF (aa (a8 (bM hr) (pv 0) ay (fun _ _=>rfl)) aj)) (wa _)))))
 (ak
 (aA ay))
 aB)
 (ae
 (aC (i:=2) iq.nd rfl (Or.inl rfl) (ax av (a8 (bM hr) (pv 0) ay (fun _ _=>rfl)) (ax aK (pv 1) ag (fun _ _=>rfl)) (fun _ _=>rfl)))
 (ak
 (aA (bu (aa (ax av (pv 2) ag (fun _ _=>rfl)) (aa (ax av (pv 2) ag (fun _ _=>rfl)) (aa (ax av (pv 2) ag (fun _ _=>rfl)) (aa (ax av (pv 2) ag (fun _ _=>rfl)) (aa (ax av (pv 2) ag (fun _ _=>rfl)) aj))))))))))
 aB)
 (ak
 (aA (aV G__law_with_one hr.mn rfl m__law_with_one F__law_with_one.kp b__law_with_one .nil wg (aa (pv 0) (aa (pv 1) aj))))))))),?_⟩
 have ea:(a.recs.map V.ref).length=b.all.length:=by rw [J9];exact p.recs.len
 cases dd with
 | keep wh t m g =>
  refine ⟨_,rfl,x,_,_,_,rfl,rfl,SqT.of hx,rfl,rfl,_,rfl,ifT (by decide +kernel) ?_⟩
  exact ⟨_,rfl,_,rfl,d,a,b,x,wh,t,m,g,rfl,hx,p,O,Nat.lt_of_lt_of_le hl (by decide),k⟩
 | clock t =>
  refine ⟨_,rfl,x,_,_,_,rfl,rfl,SqT.of hx,rfl,rfl,_,rfl,ifF (by decide +kernel) ?_⟩
  refine ⟨_,rfl,x,_,_,_,rfl,rfl,SqT.of hx,rfl,rfl,_,rfl,ifT (by decide +kernel) ?_⟩
  exact ⟨_,rfl,_,rfl,x,_,_,_,rfl,rfl,SqT.of hx,rfl,d,a,b,t,rfl,p,O,hl,k⟩
 | free t =>
  refine ⟨_,rfl,x,_,_,_,rfl,rfl,SqT.of hx,rfl,rfl,_,rfl,ifF (by decide +kernel) ?_⟩
  refine ⟨_,rfl,x,_,_,_,rfl,rfl,SqT.of hx,rfl,rfl,_,rfl,ifF (by decide +kernel) ?_⟩
  refine ⟨_,rfl,x,_,_,_,rfl,rfl,SqT.of hx,rfl,(by show 2≤sizeLine;decide),fun y hy=>⟨y,_,rfl,.inl (SqL.of af),rfl,rfl,_,rfl,ifT (by decide +kernel) ?_⟩⟩
  rw [pZ] at k
  have k':=k.same p (ai hy (.lst [.str "free",.str "row"]))
  have hx1:=ai hy (.lst [.str "free",.str "row"]) _ _ hx
  have p1:=p.same (ai hy (.lst [.str "free",.str "row"]))
  generalize upd H y (.lst [.str "free",.str "row"])=H1 at k' hx1 p1
  refine ⟨_,rfl,x,_,_,_,rfl,rfl,SqT.of hx1,rfl,_,_,rfl,rfl,_,rfl,?_⟩
  refine wx (fun c=>?_) (fun c=>?_)
  ·rw [J3 (Bool.eq_false_iff.mpr fun z=>by have:=Ji c;have:=(bj.mp z).1;omega)] at k'
   exact xq (k' H1 a _ (After.refl p1) aN bA)
  have c':¬ t<0:=fun z=>c (Je z)
  refine ⟨_,rfl,x,_,_,_,rfl,rfl,SqT.of hx1,rfl,_,rfl,d,_,rfl,p1.gR,a.R,_,rfl,.inl (SqL.of p1.rooms),_,_,rfl,rfl,_,rfl,?_⟩
  refine wx (fun c2=>?_) (fun c2=>?_)
  ·rw [J3 (Bool.eq_false_iff.mpr fun z=>by
    have q1:(((b.rooms.map V.int).length:Nat) : Int)≤t:=Ji c2
    have:=(bj.mp z).2
    rw [J9] at q1
    omega)] at k'
   exact k' H1 a _ (After.refl p1) aN bA
  have c2':¬ (((b.rooms.map V.int).length:Nat) : Int)≤t:=fun z=>c2 (Je z)
  rw [J9] at c2'
  obtain ⟨sh,rfl⟩:=Int.eq_ofNat_of_zero_le (Int.not_lt.mp c')
  have hs:sh<b.rooms.length:=by omega
  have ei:b.wo (sh:Nat)=true:=bj.mpr ⟨by omega,by omega⟩
  rw [J0 (by rw [ei];decide),Jp] at k'
  refine ⟨_,rfl,x,_,_,_,rfl,rfl,SqT.of hx1,rfl,rfl,_,rfl,ifT (by decide +kernel) ?_⟩
  exact ⟨_,rfl,_,rfl,x,_,_,_,rfl,rfl,SqT.of hx1,rfl,d,a,b,sh,rfl,p1,hs,fun H2 g=>k' H2 a _ ((After.refl p1).same g) bE rA⟩
 | row t =>
  refine ⟨_,rfl,x,_,_,_,rfl,rfl,SqT.of hx,rfl,rfl,_,rfl,ifF (by decide +kernel) ?_⟩
  refine ⟨_,rfl,x,_,_,_,rfl,rfl,SqT.of hx,rfl,rfl,_,rfl,ifF (by decide +kernel) ?_⟩
  refine ⟨_,rfl,x,_,_,_,rfl,rfl,SqT.of hx,rfl,(by show 2≤sizeLine;decide),fun y hy=>⟨y,_,rfl,.inl (SqL.of af),rfl,rfl,_,rfl,ifT (by decide +kernel) ?_⟩⟩
  rw [si] at k
  have k':=k.same p (ai hy (.lst [.str "free",.str "row"]))
  have hx1:=ai hy (.lst [.str "free",.str "row"]) _ _ hx
  have p1:=p.same (ai hy (.lst [.str "free",.str "row"]))
  generalize upd H y (.lst [.str "free",.str "row"])=H1 at k' hx1 p1
  refine ⟨_,rfl,x,_,_,_,rfl,rfl,SqT.of hx1,rfl,_,_,rfl,rfl,_,rfl,?_⟩
  refine wx (fun c=>?_) (fun c=>?_)
  ·rw [J3 (Bool.eq_false_iff.mpr fun z=>by have:=Ji c;have:=(bj.mp z).1;omega)] at k'
   exact xq (k' H1 a _ (After.refl p1) aN bA)
  have c':¬ t<0:=fun z=>c (Je z)
  refine ⟨_,rfl,x,_,_,_,rfl,rfl,SqT.of hx1,rfl,_,rfl,d,_,rfl,p1.gR,a.R,_,rfl,.inl (SqL.of p1.rooms),_,_,rfl,rfl,_,rfl,?_⟩
  refine wx (fun c2=>?_) (fun c2=>?_)
  ·rw [J3 (Bool.eq_false_iff.mpr fun z=>by
    have q1:(((b.rooms.map V.int).length:Nat) : Int)≤t:=Ji c2
    have:=(bj.mp z).2
    rw [J9] at q1
    omega)] at k'
   exact k' H1 a _ (After.refl p1) aN bA
  have c2':¬ (((b.rooms.map V.int).length:Nat) : Int)≤t:=fun z=>c2 (Je z)
  rw [J9] at c2'
  obtain ⟨sh,rfl⟩:=Int.eq_ofNat_of_zero_le (Int.not_lt.mp c')
  have hs:sh<b.rooms.length:=by omega
  have ei:b.wo (sh:Nat)=true:=bj.mpr ⟨by omega,by omega⟩
  rw [J0 (by rw [ei];decide),Jp] at k'
  refine ⟨_,rfl,x,_,_,_,rfl,rfl,SqT.of hx1,rfl,rfl,_,rfl,ifF (by decide +kernel) ?_⟩
  have hsr:sh<b.rows.length:=by rw [← O.one];exact hs
  obtain ⟨rp,erp,hrp⟩:=p1.gj hsr
  refine ⟨_,rfl,d,_,rfl,p1.gW,_,rfl,x,_,_,_,rfl,rfl,SqT.of hx1,rfl,a.W,_,_,_,rfl,rfl,SqL.of p1.rows,bG erp,?_⟩
  exact ⟨rp,_,rfl,.inl (SqL.of hrp),fun z hz=>k' _ a _ ((After.refl p1).same (ai hz _)) (dw (p1.new hz) af) (cY hz)⟩
 | state n =>
  refine ⟨_,rfl,x,_,_,_,rfl,rfl,SqT.of hx,rfl,rfl,_,rfl,ifF (by decide +kernel) ?_⟩
  refine ⟨_,rfl,x,_,_,_,rfl,rfl,SqT.of hx,rfl,rfl,_,rfl,ifF (by decide +kernel) ?_⟩
  refine ⟨_,rfl,x,_,_,_,rfl,rfl,SqT.of hx,rfl,(by show 2≤sizeLine;decide),fun y hy=>⟨y,_,rfl,.inl (SqL.of af),rfl,rfl,_,rfl,ifF (by decide +kernel) ?_⟩⟩
  rw [nM] at k
  have k':=k.same p (ai hy (.lst [.str "free",.str "row"]))
  have hx1:=ai hy (.lst [.str "free",.str "row"]) _ _ hx
  have p1:=p.same (ai hy (.lst [.str "free",.str "row"]))
  generalize upd H y (.lst [.str "free",.str "row"])=H1 at k' hx1 p1
  refine ⟨_,rfl,x,_,_,_,rfl,rfl,SqT.of hx1,rfl,rfl,_,rfl,ifT (by decide +kernel) ?_⟩
  refine ⟨_,rfl,x,_,_,_,rfl,rfl,SqT.of hx1,rfl,_,_,rfl,rfl,_,rfl,?_⟩
  refine wx (fun c=>?_) (fun c=>?_)
  ·rw [J3 (Bool.eq_false_iff.mpr fun z=>by have:=Ji c;have:=(cA.mp z).1;omega)] at k'
   exact xq (k' H1 a _ (After.refl p1) aN bA)
  have c':¬ n<0:=fun z=>c (Je z)
  refine ⟨_,rfl,x,_,_,_,rfl,rfl,SqT.of hx1,rfl,_,rfl,d,_,rfl,p1.gA,a.A,_,rfl,.inl (SqL.of p1.all),_,_,rfl,rfl,_,rfl,?_⟩
  refine wx (fun c2=>?_) (fun c2=>?_)
  ·rw [J3 (Bool.eq_false_iff.mpr fun z=>by
    have q1:(((a.recs.map V.ref).length:Nat) : Int)≤n:=Ji c2
    have:=(cA.mp z).2
    rw [ea] at q1
    omega)] at k'
   exact k' H1 a _ (After.refl p1) aN bA
  have c2':¬ (((a.recs.map V.ref).length:Nat) : Int)≤n:=fun z=>c2 (Je z)
  rw [ea] at c2'
  obtain ⟨j,rfl⟩:=Int.eq_ofNat_of_zero_le (Int.not_lt.mp c')
  have hj:j<b.all.length:=by omega
  have ei:b.wZ (j:Nat)=true:=cA.mpr ⟨by omega,by omega⟩
  rw [J0 (by rw [ei];decide),Jp] at k'
  obtain ⟨q,eq,hq⟩:=p1.eM hj
  refine ⟨_,rfl,d,_,rfl,p1.gA,_,rfl,x,_,_,_,rfl,rfl,SqT.of hx1,rfl,a.A,_,_,_,rfl,rfl,SqL.of p1.all,bG eq,?_⟩
  refine ⟨_,rfl,q,_,_,_,rfl,rfl,SqL.of hq,rfl,_,rfl,q,_,_,_,rfl,rfl,SqL.of hq,rfl,_,rfl,q,_,_,_,rfl,rfl,SqL.of hq,rfl,_,rfl,q,_,_,_,rfl,rfl,SqL.of hq,rfl,_,rfl,q,_,_,_,rfl,rfl,SqL.of hq,rfl,(by show 5≤sizeLine;decide),fun z hz=>?_⟩
  exact k' _ a _ ((After.refl p1).same (ai hz _)) (dO (p1.new hz) af (aI aN (aI bE (aI bE (aI aN (aI (lC _) bD)))))) (cY hz)
 | take n =>
  refine ⟨_,rfl,x,_,_,_,rfl,rfl,SqT.of hx,rfl,rfl,_,rfl,ifF (by decide +kernel) ?_⟩
  refine ⟨_,rfl,x,_,_,_,rfl,rfl,SqT.of hx,rfl,rfl,_,rfl,ifF (by decide +kernel) ?_⟩
  refine ⟨_,rfl,x,_,_,_,rfl,rfl,SqT.of hx,rfl,(by show 2≤sizeLine;decide),fun y hy=>⟨y,_,rfl,.inl (SqL.of af),rfl,rfl,_,rfl,ifF (by decide +kernel) ?_⟩⟩
  have k':=k.same p (ai hy (.lst [.str "free",.str "row"]))
  refine ⟨_,rfl,x,_,_,_,rfl,rfl,SqT.of (ai hy _ _ _ hx),rfl,rfl,_,rfl,ifF (by decide +kernel) ?_⟩
  exact ⟨_,rfl,_,rfl,d,a,b,x,_,rfl,ai hy _ _ _ hx,p.same (ai hy _),O,Ju (Y9 hl) (by decide),rfl,k'⟩
 | back n =>
  refine ⟨_,rfl,x,_,_,_,rfl,rfl,SqT.of hx,rfl,rfl,_,rfl,ifF (by decide +kernel) ?_⟩
  refine ⟨_,rfl,x,_,_,_,rfl,rfl,SqT.of hx,rfl,rfl,_,rfl,ifF (by decide +kernel) ?_⟩
  refine ⟨_,rfl,x,_,_,_,rfl,rfl,SqT.of hx,rfl,(by show 2≤sizeLine;decide),fun y hy=>⟨y,_,rfl,.inl (SqL.of af),rfl,rfl,_,rfl,ifF (by decide +kernel) ?_⟩⟩
  have k':=k.same p (ai hy (.lst [.str "free",.str "row"]))
  refine ⟨_,rfl,x,_,_,_,rfl,rfl,SqT.of (ai hy _ _ _ hx),rfl,rfl,_,rfl,ifF (by decide +kernel) ?_⟩
  exact ⟨_,rfl,_,rfl,d,a,b,x,_,rfl,ai hy _ _ _ hx,p.same (ai hy _),O,Ju (Y9 hl) (by decide),rfl,k'⟩
 | part n m =>
  refine ⟨_,rfl,x,_,_,_,rfl,rfl,SqT.of hx,rfl,rfl,_,rfl,ifF (by decide +kernel) ?_⟩
  refine ⟨_,rfl,x,_,_,_,rfl,rfl,SqT.of hx,rfl,rfl,_,rfl,ifF (by decide +kernel) ?_⟩
  refine ⟨_,rfl,x,_,_,_,rfl,rfl,SqT.of hx,rfl,(by show 2≤sizeLine;decide),fun y hy=>⟨y,_,rfl,.inl (SqL.of af),rfl,rfl,_,rfl,ifF (by decide +kernel) ?_⟩⟩
  have k':=k.same p (ai hy (.lst [.str "free",.str "row"]))
  refine ⟨_,rfl,x,_,_,_,rfl,rfl,SqT.of (ai hy _ _ _ hx),rfl,rfl,_,rfl,ifF (by decide +kernel) ?_⟩
  exact ⟨_,rfl,_,rfl,d,a,b,x,_,rfl,ai hy _ _ _ hx,p.same (ai hy _),O,Ju (Y9 hl) (by decide),rfl,k'⟩
 | move n t =>
  refine ⟨_,rfl,x,_,_,_,rfl,rfl,SqT.of hx,rfl,rfl,_,rfl,ifF (by decide +kernel) ?_⟩
  refine ⟨_,rfl,x,_,_,_,rfl,rfl,SqT.of hx,rfl,rfl,_,rfl,ifF (by decide +kernel) ?_⟩
  refine ⟨_,rfl,x,_,_,_,rfl,rfl,SqT.of hx,rfl,(by show 2≤sizeLine;decide),fun y hy=>⟨y,_,rfl,.inl (SqL.of af),rfl,rfl,_,rfl,ifF (by decide +kernel) ?_⟩⟩
  have k':=k.same p (ai hy (.lst [.str "free",.str "row"]))
  refine ⟨_,rfl,x,_,_,_,rfl,rfl,SqT.of (ai hy _ _ _ hx),rfl,rfl,_,rfl,ifF (by decide +kernel) ?_⟩
  exact ⟨_,rfl,_,rfl,d,a,b,x,_,rfl,ai hy _ _ _ hx,p.same (ai hy _),O,Ju (Y9 hl) (by decide),rfl,k'⟩
 | pass n u =>
  refine ⟨_,rfl,x,_,_,_,rfl,rfl,SqT.of hx,rfl,rfl,_,rfl,ifF (by decide +kernel) ?_⟩
  refine ⟨_,rfl,x,_,_,_,rfl,rfl,SqT.of hx,rfl,rfl,_,rfl,ifF (by decide +kernel) ?_⟩
  refine ⟨_,rfl,x,_,_,_,rfl,rfl,SqT.of hx,rfl,(by show 2≤sizeLine;decide),fun y hy=>⟨y,_,rfl,.inl (SqL.of af),rfl,rfl,_,rfl,ifF (by decide +kernel) ?_⟩⟩
  have k':=k.same p (ai hy (.lst [.str "free",.str "row"]))
  refine ⟨_,rfl,x,_,_,_,rfl,rfl,SqT.of (ai hy _ _ _ hx),rfl,rfl,_,rfl,ifF (by decide +kernel) ?_⟩
  exact ⟨_,rfl,_,rfl,d,a,b,x,_,rfl,ai hy _ _ _ hx,p.same (ai hy _),O,Ju (Y9 hl) (by decide),rfl,k'⟩
end
end Kp
namespace Kp
open PySem L2
def Ag:Sp:=fun vs H Q _=>∃ (r:Addr) (rooms:List Int),vs=[.ref r]∧H r=some (.lst (rooms.map V.int))∧rooms.length≤1000∧∀ H' d a,wm H H'→Pic H' d a (vY.begun rooms)→a.R=r→(∀ x∈foot d a,H x=none)→Q (.ref d) H'
theorem merge4 {x y z w:V} : xN [] [((Sum.inr "rooms" : Key),x),(Sum.inr "all",y),(Sum.inr "rows",z),(Sum.inr "now",w)]=[((Sum.inr "rooms" : Key),x),(Sum.inr "all",y),(Sum.inr "rows",z),(Sum.inr "now",w)]:=by
 have p1:putK ([] : List (Key × V)) (Sum.inr "rooms" : Key) x=[((Sum.inr "rooms" : Key),x)]:=rfl
 have p2:putK [((Sum.inr "rooms" : Key),x)] (Sum.inr "all") y=[((Sum.inr "rooms" : Key),x),(Sum.inr "all",y)]:=by
  unfold putK
  rw [J0]
  ·rfl
  ·simp only [List.any_cons,List.any_nil,Js kne1,Bool.or_false]
   decide
 have p3:putK [((Sum.inr "rooms" : Key),x),(Sum.inr "all",y)] (Sum.inr "rows") z=[((Sum.inr "rooms" : Key),x),(Sum.inr "all",y),(Sum.inr "rows",z)]:=by
  unfold putK
  rw [J0]
  ·rfl
  ·simp only [List.any_cons,List.any_nil,Js kne2,Js kne3,Bool.or_false]
   decide
 have p4:putK [((Sum.inr "rooms" : Key),x),(Sum.inr "all",y),(Sum.inr "rows",z)] (Sum.inr "now") w=[((Sum.inr "rooms" : Key),x),(Sum.inr "all",y),(Sum.inr "rows",z),(Sum.inr "now",w)]:=by
  unfold putK
  rw [J0]
  ·rfl
  ·simp only [List.any_cons,List.any_nil,Js kne4,Js kne5,Js kne6,Bool.or_false]
   decide
 unfold xN
 rw [List.foldl_cons,List.foldl_cons,List.foldl_cons,List.foldl_cons,List.foldl_nil,p1,p2,p3,p4]
section
variable {P:Program} {w:World} {K:Ay} {mg:Str→Option Value} {base:Heap}
theorem jX:wb ["_law_rooms"] ["_law_rooms"] (vZ za):=L2.wy rfl rfl rfl rfl (by decide +kernel)
theorem sj {f:Addr} {fd:FuncData} (F:Fun K "_law_begun" "_law_begun" za f fd) (T:Blt mg) :
  we P w K mg base CX0 1 f fd ["_law_rooms"] Ag:=by
 refine F.ok jX (fun vs H Q E h=>?_) (fun cdv A outer s H vs Q E hr h=>?_)
 ·obtain ⟨r,rooms,rfl,_⟩:=h
  rfl
 obtain ⟨r,rooms,rfl,h0,hl,k⟩:=h
 refine ⟨_,    (ak
 (aA (uj (gO ay (pv 0) (gO ay (a0 aj) (gO ay (cj ["_law_room"] [] [] rfl (bC (pv 0)) (fun _ _ _ _ _ _=>aO (i:=0) (show List.Nodup ((["_law_room"] : List Str)++([] : List Str)) from by decide +kernel) rfl (Or.inl rfl)) (fun _ _ _ _ _ _=>eC) (fun _ _ _ _ _ _=>(a0 aj)) .nil) (gO ay ag ui)))) rfl rfl (by simp) (by decide)))),?_⟩
 intro d hd
 have s1:=ai hd (.dK [])
 have d1:(upd H d (.dK [])) d=some (.dK []):=af
 generalize upd H d (.dK [])=H1 at s1 d1
 refine ⟨_,rfl,(by show 0≤sizeLine;decide),fun A hA=>?_⟩
 have hA0:H A=none:=s1.free hA
 have s2:=s1.trans (ai hA (.lst []))
 have d2:=ai hA (.lst []) _ _ d1
 have a2:(upd H1 A (.lst [])) A=some (.lst []):=af
 generalize upd H1 A (.lst [])=H2 at s2 d2 a2
 refine ⟨_,rfl,r,rfl,⟨_,SqL.of (s2 _ _ h0)⟩,fun W hW=>?_⟩
 have hW0:H W=none:=s2.free hW
 have nAd:A≠d:=fun e=>by rw [e,d1] at hA;cases hA
 have nWd:W≠d:=fun e=>by rw [e,d2] at hW;cases hW
 have nWA:W≠A:=fun e=>by rw [e,a2] at hW;cases hW
 refine bT (K:=K) (xs:=rooms.map V.int) (fun i σ H3=>∃ (v:Option V) (ps:List Addr),σ=[v]∧wm H H3∧H3 d=some (.dK [])∧H3 A=some (.lst [])∧H3 W=some (.lst (ps.map V.ref))∧ps.length=i∧ps.Nodup∧∀ p∈ps,H p=none∧H3 p=some (.lst [])∧p≠d∧p≠A∧p≠W)
  ⟨none,[],rfl,s2.trans (ai hW _),ai hW _ _ _ d2,ai hW _ _ _ a2,af,rfl,List.nodup_nil,fun p hp=>by cases hp⟩ (fun i σ H3 _ ⟨_,_,_,g,_⟩=>SqL.of (g _ _ h0)) ?_ ?_
 ·rintro i x σ H3 N hN hi ⟨v,ps,rfl,s3,d3,a3,w3,hps,nd,hp⟩
  refine (show tLst yP [some x] H3 (fun y H6=>∃ ys,H6 W=some (.lst ys)∧ys.length<sizeLine∧N [some x] (upd H6 W (.lst (ys++[y])))) from ⟨(by show 0≤sizeLine;decide),fun y hy=>?_⟩)
  have hil:i<rooms.length:=by have:=(Jg.mp hi).1;rw [J9] at this;exact this
  refine ⟨_,ai hy _ _ _ w3,big (by rw [J9];omega),hN _ _ ?_⟩
  have nyW:y≠W:=fun e=>by rw [e,w3] at hy;cases hy
  have s4:=s3.trans (ai hy (.lst []))
  refine ⟨some x,ps++[y],rfl,bx s4 hW0 _,?_,?_,?_,by rw [Jc,Jo,hps],?_,?_⟩
  ·rw [ao nWd.symm];exact ai hy _ _ _ d3
  ·rw [ao nWA.symm];exact ai hy _ _ _ a3
  ·rw [af,Jz];rfl
  ·refine List.nodup_append.mpr ⟨nd,by simp,fun p hp1 q hq e=>?_⟩
   rw [Y5.mp hq] at e
   rw [← e,(hp p hp1).2.1] at hy
   cases hy
  ·intro p hp1
   rcases Y1.mp hp1 with hp1 | hp1
   ·obtain ⟨g1,g2,g3⟩:=hp p hp1
    exact ⟨g1,by rw [ao g3.2.2];exact ai hy _ _ _ g2,g3⟩
   ·rw [Y5.mp hp1]
    exact ⟨s3.free hy,by rw [ao nyW];exact af,(fun e=>by rw [e,d3] at hy;cases hy),(fun e=>by rw [e,a3] at hy;cases hy),nyW⟩
 ·rintro σ H3 ⟨v,ps,rfl,s3,d3,a3,w3,hps,nd,hp⟩
  rw [J9] at hps
  refine ⟨d3,[(Sum.inr "rooms",V.ref r),(Sum.inr "all",V.ref A),(Sum.inr "rows",V.ref W),(Sum.inr "now",V.int 0)],rfl,(by show 4≤15;decide),?_⟩
  rw [merge4]
  have nr:∀ {x:Addr},H x=none→r≠x:=fun h=>aE h0 h
  refine k _ d ⟨r,A,W,[],ps⟩ (bx s3 hd _) ?_ rfl ?_
  ·refine ⟨af,by rw [ao (nr hd)];exact s3 _ _ h0,by rw [ao nAd];exact a3,by rw [ao nWd];exact w3,Each.nil,⟨?_,fun i p ns h1 h2=>?_⟩,?_,?_⟩
   ·show ps.length=(rooms.map _).length
    rw [J9];exact hps
   ·have hp1:=hp p (List.mem_of_getElem? h1)
    have h3:(rooms.map fun _=>([] : List Nat))[i]? = some ns:=h2
    rw [Jw] at h3
    have:ns=[]:=by
     cases e:rooms[i]? with
     | none=>rw [e] at h3;cases h3
     | some _=>rw [e] at h3;cases h3;rfl
    rw [this,ao hp1.2.2.1]
    exact hp1.2.1
   ·show (r::A::W::([]++ps)).Nodup
    rw [List.nil_append]
    refine List.nodup_cons.mpr ⟨?_,List.nodup_cons.mpr ⟨?_,List.nodup_cons.mpr ⟨?_,nd⟩⟩⟩
    ·simp only [List.mem_cons,not_or]
     exact ⟨nr hA0,nr hW0,fun m=>nr (hp r m).1 rfl⟩
    ·simp only [List.mem_cons,not_or]
     exact ⟨nWA.symm,fun m=>(hp A m).2.2.2.1 rfl⟩
    ·exact fun m=>(hp W m).2.2.2.2 rfl
   ·show rooms.length=(rooms.map _).length
    rw [J9]
  ·intro x hx
   unfold foot Adr.own at hx
   simp only [List.mem_cons,List.nil_append] at hx
   rcases hx with e | e | e | e
   ·rw [e];exact hd
   ·rw [e];exact hA0
   ·rw [e];exact hW0
   ·exact (hp x e).1
end
end Kp
namespace Kp
open PySem L2
theorem cp12:Ar 10 12:=⟨by decide,by decide,by decide⟩
theorem cp50:Ar 10 50:=⟨by decide,by decide,by decide⟩
theorem Aw:Ar 10 60:=⟨by decide,by decide,by decide⟩
theorem cp40:Ar 10 40:=⟨by decide,by decide,by decide⟩
theorem cp9:Ar 10 9:=⟨by decide,by decide,by decide⟩
theorem cb50:CBits (10 ^ (50:Int).toNat) (10 ^ (50:Int).toNat):=⟨by decide +kernel,by decide +kernel⟩
theorem zQ:(0:Int)<10 ^ (50:Int).toNat*10 ^ (50:Int).toNat-1:=by decide +kernel
theorem pos12:(0:Int)<10 ^ (12:Int).toNat:=by decide +kernel
theorem yl:(0:Int)<10 ^ (40:Int).toNat:=by decide +kernel
theorem yG:(0:Int)<10 ^ (60:Int).toNat:=by decide +kernel
theorem dC {zs:List Int} {i:Int} (h0 : 0≤i) (h1:i<zs.length) : ∃ z,atI (zs.map V.int) i=some (.int z)∧z∈zs:=by
 obtain ⟨j,rfl⟩:=Int.eq_ofNat_of_zero_le h0
 have hj:j<zs.length:=by omega
 exact ⟨zs[j],eA hj,Yf hj⟩
def Ah (K:Ay) : Sp:=fun vs H Q _=>∃ (a:Addr) (ns:List Int),vs=[.ref a]∧SqL K H a (ns.map V.int)∧ns.length≤63 ∧
 ∀ H' l rooms,wm H H'→H' l=some (.lst (rooms.map V.int))→H l=none→rooms≠[]→rooms.length≤8→(∀ r∈rooms,0≤r)→Q (.ref l) H'
section
variable {P:Program} {w:World} {K:Ay} {mg:Str→Option Value} {base:Heap}
theorem bY:wb ["_law_script","_law_rooms","_law_count","_law_j","_law_cell"] ["_law_script"] (vZ y8):=L2.wy rfl rfl rfl rfl (by decide +kernel)
theorem su {f f1 f2:Addr} {fd fd1 fd2:FuncData} (F:Fun K "_law_sized" "_law_sized" y8 f fd) (T:Blt mg)
  (F__law_at:Fun K "_law_at" "_law_at" sAt f1 fd1) (b__law_at:Binds K fd1 ["_law_script","_law_k"] []) (m__law_at:mg "_law_at" = some (.ref f1))
  (F__law_reach:Fun K "_law_reach" "_law_reach" yF f2 fd2) (b__law_reach:Binds K fd2 ["_law_script","_law_most","_law_bound"] []) (m__law_reach:mg "_law_reach" = some (.ref f2)) :
  we P w K mg base CX0 2 f fd ["_law_script"] (Ah K):=by
 have G__law_at:we P w K mg base CX0 1 f1 fd1 ["_law_script","_law_k"] (spAt K):=ok_at F__law_at T
 have G__law_reach:we P w K mg base CX0 1 f2 fd2 ["_law_script","_law_most","_law_bound"] (zd K):=mE F__law_reach T
 refine F.ok bY (fun vs H Q E h=>?_) (fun cdv A outer s H vs Q E hr h=>?_)
 ·obtain ⟨a,ns,rfl,_⟩:=h
  rfl
 obtain ⟨a,ns,rfl,hS,h63,k⟩:=h
 refine ⟨_,    (ae
 (aC (i:=1) bY.nd rfl (Or.inl rfl) (a0 aj))
 (ae
 (aC (i:=2) bY.nd rfl (Or.inl rfl) (az bh ag (az aP (aV G__law_at hr.mn rfl m__law_at F__law_at.kp b__law_at .nil wg (aa (pv 0) (aa ag aj))) ag)))
 (dh
 (aH (au fW (az aP (aV G__law_at hr.mn rfl m__law_at F__law_at.kp b__law_at .nil wg (aa (pv 0) (aa ag aj))) ag) ag (wa _))
 (ak
 (aC (i:=2) bY.nd rfl (Or.inl rfl) (az bh ag (az aP (az eB (aV G__law_at hr.mn rfl m__law_at F__law_at.kp b__law_at .nil wg (aa (pv 0) (aa ag aj))) ag) (aV G__law_reach hr.mn rfl m__law_reach F__law_reach.kp b__law_reach .nil wg (aa (pv 0) (aa ag (aa ag aj))))))))
 aB)
 (ae
 (bU PassesOwn.never rfl (dS rfl T.range (aa (pv 2) aj)) (aO (i:=3) bY.nd rfl (Or.inl rfl))
 (ae
 (aC (i:=4) bY.nd rfl (Or.inl rfl) (aV G__law_at hr.mn rfl m__law_at F__law_at.kp b__law_at .nil wg (aa (pv 0) (aa (az bh ag (pv 3)) aj))))
 (ak
 (aF (bP Jl Jq Jr aX (pv 1) (aa (ax av (a0 (aa (az aP (az bh (pv 4) (az kP ag (pv 3))) ag) (aa (az aP (pv 4) ag) aj))) (bN eP rfl T.int iD (aa (eY bb (az aP (az bh (pv 4) (pv 3)) ag) ag (wa _)) aj)) (fun _ _=>rfl)) aj))))))
 (dh
 (aH (au bb (az aP (aV G__law_at hr.mn rfl m__law_at F__law_at.kp b__law_at .nil wg (aa (pv 0) (aa ag aj))) ag) ag (wa _))
 (ak
 (cT (ax av (a0 (aa (az b7 ag ag) (aa (az aP (aV G__law_at hr.mn rfl m__law_at F__law_at.kp b__law_at .nil wg (aa (pv 0) (aa ag aj))) (az cC (az ot (az b7 ag ag) (az b7 ag ag)) ag)) aj))) (az aP (az eB (aV G__law_at hr.mn rfl m__law_at F__law_at.kp b__law_at .nil wg (aa (pv 0) (aa ag aj))) ag) ag) (fun _ _=>rfl)) (eI (pv 1) ag set_list)))
 aB)
 (ak
 (aA (pv 1)))))))),?_⟩
 refine ⟨(by show 0≤sizeLine;decide),fun l hl=>?_⟩
 have s1:=ai hl (.lst [])
 have e1:(upd H l (.lst [])) l=some (.lst (([] : List Int).map V.int)):=af
 generalize upd H l (.lst [])=H1 at s1 e1
 refine ⟨_,rfl,a,0,ns,rfl,s1.seq hS,Int.le_refl 0,_,_,rfl,rfl,(by decide:(0:Int)<3),_,_,rfl,rfl,?_⟩
 dsimp -proj -iota only
 generalize ns.getD (0:Int).toNat 0=n0
 refine ⟨fun σ H2=>H2=H1∧∃ c:Int,σ=[some (.ref a),some (.ref l),some (.int c),none,none]∧1≤c∧c≤8,?_,?_⟩
 ·refine ⟨_,rfl,a,0,ns,rfl,s1.seq hS,Int.le_refl 0,_,_,rfl,rfl,(by decide:(0:Int)<15),_,_,rfl,rfl,_,rfl,?_⟩
  refine wx (fun _=>?_) (fun _=>?_)
  ·refine ⟨_,rfl,a,0,ns,rfl,s1.seq hS,Int.le_refl 0,_,_,rfl,rfl,⟨by decide,by decide⟩,_,rfl,a,5,37,ns,rfl,s1.seq hS,h63,_,_,rfl,rfl,(by decide:(0:Int)<5),_,_,rfl,rfl,?_⟩
   exact ⟨rfl,_,rfl,by omega,by omega⟩
  ·exact ⟨rfl,_,rfl,by omega,by omega⟩
 rintro σ H2 ⟨rfl,c,rfl,hc1,hc8⟩
 refine ⟨_,rfl,_,rfl,(by omega),(by omega),?_⟩
 refine cO (lo:=0) (n:=c.toNat) (fun i σ H2=>∃ (v3 v4:Option V) (rs:List Int),σ=[some (.ref a),some (.ref l),some (.int c),v3,v4]∧wm H H2∧H2 l=some (.lst (rs.map V.int))∧rs.length=i∧∀ r∈rs,0≤r) ⟨none,none,[],rfl,s1,e1,rfl,fun r h=>by cases h⟩ ?_ ?_
 ·rintro i σ H2 hi ⟨v3,v4,rs,rfl,s2,e2,hrs,hpos⟩
  refine ⟨_,rfl,_,rfl,_,_,rfl,rfl,a,_,ns,rfl,s2.seq hS,(by omega),?_⟩
  dsimp -proj -iota only
  generalize ns.getD (1+(0+((i:Nat) : Int))).toNat 0=ce
  refine ⟨_,rfl,.inl ⟨rfl,_,SqL.of e2⟩,_,rfl,_,rfl,_,_,rfl,rfl,.inl ⟨by decide,by decide⟩,_,_,rfl,rfl,_,_,rfl,rfl,(by decide:(0:Int)<8),_,rfl,_,_,rfl,rfl,(by decide:(0:Int)<300),(by show 2≤sizeLine;decide),fun p hp=>?_⟩
  refine ⟨_,rfl,_,rfl,_,_,rfl,rfl,_,_,rfl,rfl,(by decide:(0:Int)<11),rfl,.inr ⟨_,rfl,p,_,_,_,rfl,rfl,SqL.of af,pickI _ _ _,l,_,_,rfl,rfl,ai hp _ _ _ e2,big (by rw [J9];omega),?_⟩⟩
  have s3:=s2.trans (ai hp (.lst [V.int ((ce+3*(0+((i:Nat) : Int))) % 8),V.int (ce % 300)]))
  refine ⟨_,_,rs++[_],rfl,bx s3 hl _,by rw [af,Jz];rfl,by rw [Jc,Jo,hrs],fun r hr=>?_⟩
  rcases Y1.mp hr with hr | hr
  ·exact hpos r hr
  ·rw [Y5.mp hr]
   by_cases c:decide (V.int ((ce+(0+((i:Nat) : Int))) % 11)=V.int 4)=true
   ·rw [J3 c];omega
   ·rw [J0 c];omega
 rintro σ H2 ⟨v3,v4,rs,rfl,s2,e2,hrs,hpos⟩
 refine ⟨fun σ H3=>∃ rs:List Int,σ=[some (.ref a),some (.ref l),some (.int c),v3,v4]∧wm H H3∧H3 l=some (.lst (rs.map V.int))∧rs.length=c.toNat∧∀ r∈rs,0≤r,?_,?_⟩
 ·refine ⟨_,rfl,a,1,ns,rfl,s2.seq hS,(by decide),_,_,rfl,rfl,(by decide:(0:Int)<13),rfl,_,rfl,?_⟩
  refine wx (fun _=>?_) (fun _=>?_)
  ·refine ⟨_,_,rfl,rfl,cp12,_,rfl,a,2,ns,rfl,s2.seq hS,(by decide),_,_,rfl,rfl,cp50,_,_,rfl,rfl,cp50,_,_,rfl,rfl,cb50,_,_,rfl,rfl,_,_,rfl,rfl,zQ,(by show 2≤sizeLine;decide),fun p hp=>?_⟩
   dsimp -proj -iota only at hp ⊢
   have s3:=s2.trans (ai hp (.lst [V.int (10 ^ (12:Int).toNat),V.int (ns.getD (2:Int).toNat 0 % (10 ^ (50:Int).toNat*10 ^ (50:Int).toNat-1))]))
   obtain ⟨z,ez,mz⟩:=dC (zs:=[10 ^ (12:Int).toNat,ns.getD (2:Int).toNat 0 % (10 ^ (50:Int).toNat*10 ^ (50:Int).toNat-1)]) (i:=ns.getD (1:Int).toNat 0 / 13 % 2) (by omega) (by show _<((2:Nat) : Int);omega)
   have e3:=ai hp (.lst [V.int (10 ^ (12:Int).toNat),V.int (ns.getD (2:Int).toNat 0 % (10 ^ (50:Int).toNat*10 ^ (50:Int).toNat-1))]) _ _ e2
   refine ⟨_,rfl,a,1,ns,rfl,s3.seq hS,(by decide),_,_,rfl,rfl,⟨by decide,by decide⟩,_,_,rfl,rfl,(by decide:(0:Int)<2),p,_,_,_,rfl,rfl,SqL.of af,ez,_,rfl,l,_,_,0,rfl,rfl,e3,(by unfold ixN;rw [J3 (by decide),J3 (by rw [J9];omega)];rfl),?_⟩
   have z0 : 0≤z:=by
    simp only [List.mem_cons,List.not_mem_nil,or_false] at mz
    rcases mz with rfl | rfl
    ·exact Int.le_of_lt pos12
    ·exact Int.emod_nonneg _ (Ne.symm (Int.ne_of_lt zQ))
   refine ⟨rs.set 0 z,rfl,bx s3 hl _,by rw [af,List.map_set],by rw [Jt];exact hrs,fun r hr=>?_⟩
   rcases List.mem_or_eq_of_mem_set hr with hr | hr
   ·exact hpos r hr
   ·rw [hr];exact z0
  ·exact ⟨rs,rfl,s2,e2,hrs,hpos⟩
 rintro σ H3 ⟨rs,rfl,s3,e3,hrs,hpos⟩
 refine ⟨_,rfl,k H3 l rs s3 e3 hl (fun e=>?_) (by omega) hpos⟩
 rw [e] at hrs
 have:(0:Nat)=c.toNat:=hrs
 omega
end
end Kp
namespace Kp
open PySem L2
def zF (K:Ay) : Sp:=fun vs H Q _=>∃ (a:Addr) (ns:List Int) (k:Nat) (c m:Int),vs=[.ref a,.int (k:Nat),.int c,.int m]∧SqL K H a (ns.map V.int)∧k<ns.length∧0<c∧0≤m ∧
 ∀ H' p s mm g n,wm H H'→H' p=some (.tup [.int s,.int mm,.int g,.int n])→H p=none→g≤10 ^ 41→Q (.ref p) H'
theorem big41 (x:Int) : 1+x % 10 ^ (40:Int).toNat≤10 ^ 41:=by
 have h:=Int.emod_lt_of_pos x yl
 have e:(10:Int) ^ (40:Int).toNat≤10 ^ 41-1:=by decide +kernel
 generalize (10:Int) ^ (40:Int).toNat=y at *
 omega
theorem zG {x:Int} (h:x≤1000) : x≤10 ^ 41:=Int.le_trans h (by decide +kernel)
theorem neg41 (x:Int) : -1-x % 10 ^ (60:Int).toNat≤10 ^ 41:=by
 have h:=Int.emod_nonneg x (Ne.symm (Int.ne_of_lt yG))
 exact zG (by omega)
theorem vK:(10:Int) ^ (12:Int).toNat≤10 ^ 41:=by decide +kernel
section
variable {P:Program} {w:World} {K:Ay} {mg:Str→Option Value} {base:Heap}
theorem aZ:wb ["_law_cells","_law_k","_law_count","_law_made","_law_near","_law_far","_law_show","_law_many","_law_span","_law_number"] ["_law_cells","_law_k","_law_count","_law_made"] (vZ yu):=L2.wy rfl rfl rfl rfl (by decide +kernel)
theorem qa {f:Addr} {fd:FuncData} (F:Fun K "_law_asking" "_law_asking" yu f fd) (T:Blt mg) :
  we P w K mg base CX0 1 f fd ["_law_cells","_law_k","_law_count","_law_made"] (zF K):=by
 refine F.ok aZ (fun vs H Q E h=>?_) (fun cdv A outer s H vs Q E hr h=>?_)
 ·obtain ⟨a,ns,kk,c,m,rfl,_⟩:=h
  rfl
 obtain ⟨a,ns,kk,c,m,rfl,hS,hk,hc,hm,k⟩:=h
 refine ⟨_,    (ae
 (aC (i:=4) aZ.nd rfl (Or.inl rfl) (ax av (pv 0) (az aP (az bh (pv 1) ag) (aJ aG rfl T.len bF (aa (pv 0) aj))) (fun _ _=>rfl)))
 (ae
 (aC (i:=5) aZ.nd rfl (Or.inl rfl) (ax av (pv 0) (az aP (az bh (pv 1) ag) (aJ aG rfl T.len bF (aa (pv 0) aj))) (fun _ _=>rfl)))
 (ae
 (aC (i:=6) aZ.nd rfl (Or.inl rfl) (az aP (az bh (pv 4) (pv 1)) (pv 2)))
 (ae
 (aC (i:=7) aZ.nd rfl (Or.inl rfl) (az bh ag (az aP (pv 5) ag)))
 (ae
 (aC (i:=8) aZ.nd rfl (Or.inl rfl) (az bh ag (az aP (az eB (pv 4) ag) ag)))
 (dh
 (aH (au bb (az aP (ax av (pv 0) (pv 1) (fun _ _=>rfl)) ag) ag (wa _))
 (ae
 (aC (i:=7) aZ.nd rfl (Or.inl rfl) (az bh ag (az aP (pv 5) ag)))
 (ak
 (aC (i:=8) aZ.nd rfl (Or.inl rfl) (az bh ag (az aP (pv 4) ag)))))
 aB)
 (dh
 (aH (au bb (az aP (ax av (pv 0) (pv 1) (fun _ _=>rfl)) ag) ag (wa _))
 (ak
 (aC (i:=7) aZ.nd rfl (Or.inl rfl) (ax av (a0 (aa ag (aa (iM fC ag) (aa ag (aa (az b7 ag ag) (aa (az cC (iM fC ag) (az aP (pv 5) (az b7 ag ag))) (aa (az bh ag (az aP (pv 5) (az cC (az ot (az b7 ag ag) (az b7 ag ag)) ag))) aj))))))) (az aP (pv 5) ag) (fun _ _=>rfl))))
 aB)
 (dh
 (aH (PW.pt (dJ (au bb (az aP (ax av (pv 0) (pv 1) (fun _ _=>rfl)) ag) ag (wa _)) (cM (PW.pt (iB (au bb (az aP (ax av (pv 0) (pv 1) (fun _ _=>rfl)) ag) ag (wa _)) (fS (au bb (az aP (pv 4) ag) ag (wa _))))))))
 (ak
 (aC (i:=8) aZ.nd rfl (Or.inl rfl) (ax av (a0 (aa ag (aa (iM fC ag) (aa (az b7 ag ag) (aa (az cC (iM fC ag) (az aP (pv 4) (az b7 ag ag))) (aa (az bh ag (az aP (pv 4) (az b7 ag ag))) aj)))))) (az aP (pv 4) ag) (fun _ _=>rfl))))
 aB)
 (ae
 (aC (i:=9) aZ.nd rfl (Or.inl rfl) (az aP (az bh (pv 5) (pv 1)) (az bh (pv 3) ag)))
 (dh
 (aH (au bb (az aP (ax av (pv 0) (pv 1) (fun _ _=>rfl)) ag) ag (wa _))
 (ak
 (aC (i:=9) aZ.nd rfl (Or.inl rfl) (ax av (a0 (aa (iM fC ag) (aa (az b7 ag ag) (aa (az cC (iM fC ag) (az aP (pv 5) (az b7 ag ag))) aj)))) (az aP (pv 5) ag) (fun _ _=>rfl))))
 aB)
 (dh
 (aH (au bb (az aP (ax av (pv 0) (pv 1) (fun _ _=>rfl)) ag) ag (wa _))
 (ak
 (aC (i:=6) aZ.nd rfl (Or.inl rfl) (ax av (a0 (aa (iM fC ag) (aa (pv 2) (aa (az b7 ag ag) (aa (az cC (iM fC ag) (az aP (pv 4) (az b7 ag ag))) (aa (az bh (pv 2) (az aP (pv 4) (az b7 ag ag))) aj)))))) (az aP (pv 4) ag) (fun _ _=>rfl))))
 aB)
 (ak
 (aA (bu (aa (pv 6) (aa (pv 7) (aa (pv 8) (aa (pv 9) aj)))))))))))))))))),?_⟩
 have hl:(ns.map V.int).length=ns.length:=J9 _
 have hp:(0:Int)<(((ns.map V.int).length:Nat) : Int):=by rw [hl];omega
 obtain ⟨ne,ene,_⟩:=dC (zs:=ns) (i:=((kk:Nat)+1) % (((ns.map V.int).length:Nat) : Int)) (Int.emod_nonneg _ (by omega)) (by rw [hl] at hp ⊢;exact Int.emod_lt_of_pos _ hp)
 obtain ⟨fa,efa,_⟩:=dC (zs:=ns) (i:=((kk:Nat)+2) % (((ns.map V.int).length:Nat) : Int)) (Int.emod_nonneg _ (by omega)) (by rw [hl] at hp ⊢;exact Int.emod_lt_of_pos _ hp)
 have ece:=eA hk
 generalize ns[kk]=ce at ece
 refine ⟨_,rfl,_,rfl,_,_,rfl,rfl,_,rfl,a,_,rfl,.inl hS,_,_,rfl,rfl,hp,a,_,_,_,rfl,rfl,hS,ene,?_⟩
 refine ⟨_,rfl,_,rfl,_,_,rfl,rfl,_,rfl,a,_,rfl,.inl hS,_,_,rfl,rfl,hp,a,_,_,_,rfl,rfl,hS,efa,?_⟩
 refine ⟨_,rfl,_,rfl,_,_,rfl,rfl,_,rfl,_,_,rfl,rfl,hc,?_⟩
 refine ⟨_,rfl,_,_,rfl,rfl,(by decide:(0:Int)<4),_,_,rfl,rfl,?_⟩
 refine ⟨_,rfl,_,_,rfl,rfl,⟨by decide,by decide⟩,_,_,rfl,rfl,(by decide:(0:Int)<6),_,_,rfl,rfl,?_⟩
 refine ⟨fun σ H2=>∃ sh mm g:Int,σ=[some (.ref a),some (.int (kk:Nat)),some (.int c),some (.int m),some (.int ne),some (.int fa),some (.int sh),some (.int mm),some (.int g),none]∧wm H H2∧g≤10 ^ 41,?_,?_⟩
 ·refine ⟨_,rfl,_,rfl,a,_,_,_,rfl,rfl,hS,ece,_,_,rfl,rfl,(by decide:(0:Int)<13),rfl,_,rfl,?_⟩
  refine wx (fun _=>?_) (fun _=>?_)
  ·refine ⟨_,rfl,_,_,rfl,rfl,(by decide:(0:Int)<90),_,_,rfl,rfl,?_⟩
   refine ⟨_,rfl,_,_,rfl,rfl,(by decide:(0:Int)<200),_,_,rfl,rfl,?_⟩
   exact ⟨_,_,_,rfl,wm.refl _,zG (by omega)⟩
  ·exact ⟨_,_,_,rfl,wm.refl _,zG (by omega)⟩
 rintro σ H2 ⟨sh,mm,g,rfl,s2,hg⟩
 refine ⟨fun σ H2=>∃ sh mm g:Int,σ=[some (.ref a),some (.int (kk:Nat)),some (.int c),some (.int m),some (.int ne),some (.int fa),some (.int sh),some (.int mm),some (.int g),none]∧wm H H2∧g≤10 ^ 41,?_,?_⟩
 ·refine ⟨_,rfl,_,rfl,a,_,_,_,rfl,rfl,s2.seq hS,ece,_,_,rfl,rfl,(by decide:(0:Int)<29),rfl,_,rfl,?_⟩
  refine wx (fun _=>?_) (fun _=>?_)
  ·obtain ⟨z,ez,_⟩:=dC (zs:=[0,-1,8,10 ^ (12:Int).toNat,-1-fa % 10 ^ (60:Int).toNat,1+fa % (10 ^ (50:Int).toNat*10 ^ (50:Int).toNat-1)]) (i:=fa % 6) (by omega) (by show _<((6:Nat) : Int);omega)
   refine ⟨_,rfl,_,_,rfl,rfl,cp12,_,rfl,_,rfl,_,_,rfl,rfl,Aw,_,_,rfl,rfl,yG,_,_,rfl,rfl,_,rfl,_,_,rfl,rfl,cp50,_,_,rfl,rfl,cp50,_,_,rfl,rfl,cb50,_,_,rfl,rfl,_,_,rfl,rfl,zQ,_,_,rfl,rfl,(by show 6≤sizeLine;decide),fun p hp=>?_⟩
   refine ⟨_,rfl,_,_,rfl,rfl,(by decide:(0:Int)<6),p,_,_,_,rfl,rfl,SqL.of af,ez,?_⟩
   exact ⟨_,_,_,rfl,s2.trans (ai hp _),hg⟩
  ·exact ⟨_,_,_,rfl,s2,hg⟩
 clear hg s2
 rintro σ H2 ⟨sh,mm,g,rfl,s2,hg⟩
 refine ⟨fun σ H2=>∃ sh mm g:Int,σ=[some (.ref a),some (.int (kk:Nat)),some (.int c),some (.int m),some (.int ne),some (.int fa),some (.int sh),some (.int mm),some (.int g),none]∧wm H H2∧g≤10 ^ 41,?_,?_⟩
 ·obtain ⟨z,ez,mz⟩:=dC (zs:=[0,-1,10 ^ (12:Int).toNat,-1-ne % 10 ^ (60:Int).toNat,1+ne % 10 ^ (40:Int).toNat]) (i:=ne % 5) (by omega) (by show _<((5:Nat) : Int);omega)
  have hz:z≤10 ^ 41:=by
   simp only [List.mem_cons,List.not_mem_nil,or_false] at mz
   rcases mz with rfl | rfl | rfl | rfl | rfl
   ·exact zG (by omega)
   ·exact zG (by omega)
   ·exact vK
   ·exact neg41 _
   ·exact big41 _
  refine ⟨_,rfl,_,rfl,a,_,_,_,rfl,rfl,s2.seq hS,ece,_,_,rfl,rfl,(by decide:(0:Int)<31),rfl,_,rfl,?_⟩
  refine wx (fun _=>?_) (fun _=>?_)
  ·refine xq ?_
   refine ⟨_,rfl,_,_,rfl,rfl,cp12,_,rfl,_,rfl,_,_,rfl,rfl,Aw,_,_,rfl,rfl,yG,_,_,rfl,rfl,_,rfl,_,_,rfl,rfl,cp40,_,_,rfl,rfl,yl,_,_,rfl,rfl,(by show 5≤sizeLine;decide),fun p hp=>?_⟩
   refine ⟨_,rfl,_,_,rfl,rfl,(by decide:(0:Int)<5),p,_,_,_,rfl,rfl,SqL.of af,ez,?_⟩
   exact ⟨_,_,_,rfl,s2.trans (ai hp _),hz⟩
  refine ⟨_,rfl,_,rfl,a,_,_,_,rfl,rfl,s2.seq hS,ece,_,_,rfl,rfl,(by decide:(0:Int)<29),rfl,_,rfl,?_⟩
  refine wx (fun _=>?_) (fun _=>?_)
  ·refine ⟨_,rfl,_,_,rfl,rfl,(by decide:(0:Int)<2),rfl,_,rfl,?_⟩
   refine wx (fun _=>?_) (fun _=>?_)
   ·refine ⟨_,rfl,_,_,rfl,rfl,cp12,_,rfl,_,rfl,_,_,rfl,rfl,Aw,_,_,rfl,rfl,yG,_,_,rfl,rfl,_,rfl,_,_,rfl,rfl,cp40,_,_,rfl,rfl,yl,_,_,rfl,rfl,(by show 5≤sizeLine;decide),fun p hp=>?_⟩
    refine ⟨_,rfl,_,_,rfl,rfl,(by decide:(0:Int)<5),p,_,_,_,rfl,rfl,SqL.of af,ez,?_⟩
    exact ⟨_,_,_,rfl,s2.trans (ai hp _),hz⟩
   ·exact ⟨_,_,_,rfl,s2,hg⟩
  ·exact yo ⟨_,_,_,rfl,s2,hg⟩
 clear hg s2
 rintro σ H2 ⟨sh,mm,g,rfl,s2,hg⟩
 refine ⟨_,rfl,_,rfl,_,_,rfl,rfl,_,rfl,_,_,rfl,rfl,_,_,rfl,rfl,(by show 0<m+1;omega),?_⟩
 refine ⟨fun σ H2=>∃ sh mm g n:Int,σ=[some (.ref a),some (.int (kk:Nat)),some (.int c),some (.int m),some (.int ne),some (.int fa),some (.int sh),some (.int mm),some (.int g),some (.int n)]∧wm H H2∧g≤10 ^ 41,?_,?_⟩
 ·refine ⟨_,rfl,_,rfl,a,_,_,_,rfl,rfl,s2.seq hS,ece,_,_,rfl,rfl,(by decide:(0:Int)<41),rfl,_,rfl,?_⟩
  refine wx (fun _=>?_) (fun _=>?_)
  ·obtain ⟨z,ez,_⟩:=dC (zs:=[-1,10 ^ (9:Int).toNat,-2-fa % 10 ^ (60:Int).toNat]) (i:=fa % 3) (by omega) (by show _<((3:Nat) : Int);omega)
   refine ⟨_,rfl,_,_,rfl,rfl,cp9,_,rfl,_,rfl,_,_,rfl,rfl,Aw,_,_,rfl,rfl,yG,_,_,rfl,rfl,(by show 3≤sizeLine;decide),fun p hp=>?_⟩
   refine ⟨_,rfl,_,_,rfl,rfl,(by decide:(0:Int)<3),p,_,_,_,rfl,rfl,SqL.of af,ez,?_⟩
   exact ⟨_,_,_,_,rfl,s2.trans (ai hp _),hg⟩
  ·exact ⟨_,_,_,_,rfl,s2,hg⟩
 clear hg s2
 rintro σ H2 ⟨sh,mm,g,n,rfl,s2,hg⟩
 refine ⟨fun σ H2=>∃ sh mm g n:Int,σ=[some (.ref a),some (.int (kk:Nat)),some (.int c),some (.int m),some (.int ne),some (.int fa),some (.int sh),some (.int mm),some (.int g),some (.int n)]∧wm H H2∧g≤10 ^ 41,?_,?_⟩
 ·refine ⟨_,rfl,_,rfl,a,_,_,_,rfl,rfl,s2.seq hS,ece,_,_,rfl,rfl,(by decide:(0:Int)<19),rfl,_,rfl,?_⟩
  refine wx (fun _=>?_) (fun _=>?_)
  ·obtain ⟨z,ez,_⟩:=dC (zs:=[-1,c,10 ^ (9:Int).toNat,-2-ne % 10 ^ (60:Int).toNat,c+ne % 10 ^ (60:Int).toNat]) (i:=ne % 5) (by omega) (by show _<((5:Nat) : Int);omega)
   refine ⟨_,rfl,_,rfl,_,_,rfl,rfl,cp9,_,rfl,_,rfl,_,_,rfl,rfl,Aw,_,_,rfl,rfl,yG,_,_,rfl,rfl,_,rfl,_,rfl,_,_,rfl,rfl,Aw,_,_,rfl,rfl,yG,_,_,rfl,rfl,(by show 5≤sizeLine;decide),fun p hp=>?_⟩
   refine ⟨_,rfl,_,_,rfl,rfl,(by decide:(0:Int)<5),p,_,_,_,rfl,rfl,SqL.of af,ez,?_⟩
   exact ⟨_,_,_,_,rfl,s2.trans (ai hp _),hg⟩
  ·exact ⟨_,_,_,_,rfl,s2,hg⟩
 clear hg s2
 rintro σ H2 ⟨sh,mm,g,n,rfl,s2,hg⟩
 refine ⟨_,rfl,_,rfl,_,rfl,_,rfl,(by show 4≤sizeLine;decide),fun p hp=>?_⟩
 exact k _ p sh mm g n (s2.trans (ai hp _)) af (s2.free hp) hg
end
end Kp
namespace Kp
open PySem L2
def wd.fine:wd→Prop
 | .keep _ _ _ g=>g≤10 ^ 41
 | .clock t=>t≤10 ^ 43
 | _=>True
structure Made (H:Hp) (l:Addr) (H2:Hp) (ps:List Addr) (dds:List wd) : Prop where
 same:wm H H2
 new:H l=none
 lst:H2 l=some (.lst (ps.map V.ref))
 each:Each (fun p dd=>H2 p=some (.tup dd.vs)) ps dds
 fine:∀ dd∈dds,dd.fine
theorem Made.more {H H2 H3:Hp} {l:Addr} {ps:List Addr} {dds:List wd} (M:Made H l H2 ps dds) (g:wm H2 H3) : Made H l H3 ps dds :=
 ⟨M.same.trans g,M.new,g _ _ M.lst,M.each.mono fun p _ dd h=>g _ _ h,M.fine⟩
theorem Made.push {H H2:Hp} {l:Addr} {ps:List Addr} {dds:List wd} {p:Addr} {dd:wd} (M:Made H l H2 ps dds) (hp:H2 p=some (.tup dd.vs)) (hf:dd.fine) :
  Made H l (upd H2 l (.lst (ps.map V.ref++[.ref p]))) (ps++[p]) (dds++[dd]):=by
 have ne:∀ {q:Addr} {xs:List V},H2 q=some (.tup xs)→q≠l:=fun h=>bS h M.lst (by intro z;cases z)
 refine ⟨bx M.same M.new _,M.new,by rw [af,Jz];rfl,Each.snoc (M.each.mono fun q _ e h=>by rw [ao (ne h)];exact h) (by rw [ao (ne hp)];exact hp),fun e he=>?_⟩
 rcases Y1.mp he with he | he
 ·exact M.fine e he
 ·rw [Y5.mp he];exact hf
def Ai (K:Ay) : Sp:=fun vs H Q _=>∃ (a:Addr) (ns:List Int) (c:Int),vs=[.ref a,.int c]∧SqL K H a (ns.map V.int)∧ns.length≤63∧0<c ∧
 ∀ H' l ps dds,Made H l H' ps dds→ps.length≤ns.length→Q (.ref l) H'
theorem sx {zs:List Str} {i:Int} (h0 : 0≤i) (h1:i<zs.length) : ∃ z,atI (zs.map V.str) i=some (.str z):=by
 obtain ⟨j,rfl⟩:=Int.eq_ofNat_of_zero_le h0
 have hj:j<zs.length:=by omega
 exact ⟨zs[j],cU (by rw [Jw,Ja hj,Option.map_some])⟩
theorem sy {now x:Int} {i:Nat} {y:Int} (h:now≤i*10 ^ 41) (hy : 0<y) (hy2:y≤500) (b:Bool) : now+x / 16 % y+x % 10 ^ (40:Int).toNat*(if b=true then 1 else 0)≤((i+1:Nat) : Int)*10 ^ 41:=by
 have e:(10:Int) ^ (40:Int).toNat+500≤10 ^ 41:=by decide +kernel
 have h1:=Int.emod_lt_of_pos x yl
 have h0:=Int.emod_nonneg x (Ne.symm (Int.ne_of_lt yl))
 have h2:=Int.emod_lt_of_pos (x / 16) hy
 generalize (10:Int) ^ (40:Int).toNat=A at *
 generalize (10:Int) ^ 41=B at *
 generalize x % A=u at *
 generalize x / 16 % y=v at *
 have e2:((i+1:Nat) : Int)*B=i*B+B:=by
  rw [Int.natCast_add,Int.add_mul]
  simp
 rw [e2]
 cases b
 ·simp;omega
 ·simp;omega
theorem sA {z x:Int} (h:z∈[1,2+x % 10 ^ (40:Int).toNat]) : 0<z:=by
 have h0:=Int.emod_nonneg x (Ne.symm (Int.ne_of_lt yl))
 simp only [List.mem_cons,List.not_mem_nil,or_false] at h
 rcases h with rfl | rfl <;> omega
theorem nN {now z:Int} {i:Nat} (hi:i≤64) (h:now≤i*10 ^ 41) (hz : 0<z) (b:Bool) : now-z*(if b=true then 1 else 0)≤10 ^ 43:=by
 have e:(64:Int)*10 ^ 41≤10 ^ 43:=by decide +kernel
 have p:(0:Int)<10 ^ 41:=by decide +kernel
 have hm:(i:Int)*10 ^ 41≤64*10 ^ 41:=Int.mul_le_mul_of_nonneg_right (by omega) (Int.le_of_lt p)
 cases b
 ·simp;omega
 ·simp;omega
theorem kH (b:Bool) : -(2 ^ 64)<(if b=true then (1:Int) else 0)∧(if b=true then (1:Int) else 0)<2 ^ 64:=by cases b <;> decide
theorem str_len (x y:Str) : (x++y).length=x.length+y.length:=by
 show (x.cps++y.cps).size=x.cps.size+y.cps.size
 exact Array.size_append
section
variable {P:Program} {w:World} {K:Ay} {mg:Str→Option Value} {base:Heap}
theorem aU:wb ["_law_cells","_law_count","_law_made","_law_kept","_law_now","_law_k","_law_pick","_law_twin","_law_who","_law_show","_law_many","_law_span","_law_number","_law_less","_law_asks"] ["_law_cells","_law_count"] (vZ y9):=L2.wy rfl rfl rfl rfl (by decide +kernel)
theorem sC {f f1:Addr} {fd fd1:FuncData} (F:Fun K "_law_deeds" "_law_deeds" y9 f fd) (T:Blt mg)
  (F__law_asking:Fun K "_law_asking" "_law_asking" yu f1 fd1) (b__law_asking:Binds K fd1 ["_law_cells","_law_k","_law_count","_law_made"] []) (m__law_asking:mg "_law_asking" = some (.ref f1)) :
  we P w K mg base CX0 2 f fd ["_law_cells","_law_count"] (Ai K):=by
 have G__law_asking:we P w K mg base CX0 1 f1 fd1 ["_law_cells","_law_k","_law_count","_law_made"] (zF K):=qa F__law_asking T
 refine F.ok aU (fun vs H Q E h=>?_) (fun cdv A outer s H vs Q E hr h=>?_)
 ·obtain ⟨a,ns,c,rfl,_⟩:=h
  rfl
 obtain ⟨a,ns,c,rfl,hS,h63,hc,k⟩:=h
 refine ⟨_,    (ae
 (aC (i:=2) aU.nd rfl (Or.inl rfl) (a0 aj))
 (ae
 (aC (i:=3) aU.nd rfl (Or.inl rfl) ag)
 (ae
 (aC (i:=4) aU.nd rfl (Or.inl rfl) ag)
 (ae
 (bU PassesOwn.never rfl (dS rfl T.range (aa (aJ aG rfl T.len bF (aa (pv 0) aj)) aj)) (aO (i:=5) aU.nd rfl (Or.inl rfl))
 (ae
 (aC (i:=6) aU.nd rfl (Or.inl rfl) (az aP (az bh (ax av (pv 0) (pv 5) (fun _ _=>rfl)) (az kP ag (pv 5))) ag))
 (ae
 (aC (i:=7) aU.nd rfl (Or.inl rfl) (az jh (az jh (az lj ay (az aP (ax av (pv 0) ag (fun _ _=>rfl)) ag)) ay) (az lj ay (az cC ag (az aP (ax av (pv 0) ag (fun _ _=>rfl)) ag)))))
 (ae
 (aC (i:=8) aU.nd rfl (Or.inl rfl) (ax av (a0 (aa ay (aa ay (aa (pv 7) (aa ay (aa (az lj ay ag) aj)))))) (az aP (az bh (az eB (ax av (pv 0) (pv 5) (fun _ _=>rfl)) ag) (pv 5)) ag) (fun _ _=>rfl)))
 (ae
 (cT (aV G__law_asking hr.mn rfl m__law_asking F__law_asking.kp b__law_asking .nil wg (aa (pv 0) (aa (pv 5) (aa (pv 1) (aa (pv 3) aj))))) (kO rfl (cE (aO (i:=9) aU.nd rfl (Or.inl rfl)) (cE (aO (i:=10) aU.nd rfl (Or.inl rfl)) (cE (aO (i:=11) aU.nd rfl (Or.inl rfl)) (cE (aO (i:=12) aU.nd rfl (Or.inl rfl)) i5))))))
 (ak
 (aH (au cP (pv 6) ag (wa _))
 (ae
 (aF (bP Jl Jq Jr aX (pv 2) (aa (bu (aa ay (aa (pv 8) (aa (pv 9) (aa (pv 10) (aa (pv 11) aj)))))) aj)))
 (ak
 (aC (i:=3) aU.nd rfl (Or.inl rfl) (az bh (pv 3) ag))))
 (ak
 (aH (au cP (pv 6) ag (wa _))
 (ak
 (aF (bP Jl Jq Jr aX (pv 2) (aa (bu (aa (ax av (a0 (aa ay (aa ay aj))) (az aP (pv 6) ag) (fun _ _=>rfl)) (aa (pv 12) aj))) aj))))
 (ak
 (aH (au bb (pv 6) ag (wa _))
 (ak
 (aF (bP Jl Jq Jr aX (pv 2) (aa (bu (aa ay (aa (pv 12) (aa (az cC (pv 10) (az aP (az eB (ax av (pv 0) (pv 5) (fun _ _=>rfl)) ag) ag)) aj)))) aj))))
 (ak
 (aH (au bb (pv 6) ag (wa _))
 (ak
 (aF (bP Jl Jq Jr aX (pv 2) (aa (bu (aa ay (aa (pv 12) (aa (pv 9) aj)))) aj))))
 (ak
 (aH (au bb (pv 6) ag (wa _))
 (ak
 (aF (bP Jl Jq Jr aX (pv 2) (aa (bu (aa ay (aa (pv 12) (aa (pv 8) aj)))) aj))))
 (ak
 (aH (au cP (pv 6) ag (wa _))
 (ae
 (aC (i:=4) aU.nd rfl (Or.inl rfl) (az bh (pv 4) (az aP (az eB (ax av (pv 0) (pv 5) (fun _ _=>rfl)) ag) (ax av (a0 (aa ag (aa ag aj))) (bN eP rfl T.int iD (aa (eY bb (az aP (ax av (pv 0) (pv 5) (fun _ _=>rfl)) ag) ag (wa _)) aj)) (fun _ _=>rfl)))))
 (ae
 (aC (i:=4) aU.nd rfl (Or.inl rfl) (az bh (pv 4) (az kP (az aP (ax av (pv 0) (pv 5) (fun _ _=>rfl)) (az b7 ag ag)) (bN eP rfl T.int iD (aa (eY bb (az aP (ax av (pv 0) (pv 5) (fun _ _=>rfl)) ag) ag (wa _)) aj)))))
 (ae
 (aC (i:=13) aU.nd rfl (Or.inl rfl) (ax av (a0 (aa ag (aa (az bh ag (az aP (ax av (pv 0) (pv 5) (fun _ _=>rfl)) (az b7 ag ag))) aj))) (az aP (az eB (ax av (pv 0) (pv 5) (fun _ _=>rfl)) ag) ag) (fun _ _=>rfl)))
 (ak
 (aF (bP Jl Jq Jr aX (pv 2) (aa (bu (aa ay (aa (az cC (pv 4) (az kP (pv 13) (bN eP rfl T.int iD (aa (eY bb (az aP (ax av (pv 0) (pv 5) (fun _ _=>rfl)) ag) ag (wa _)) aj)))) aj))) aj)))))))
 (ae
 (aC (i:=14) aU.nd rfl (Or.inl rfl) (a0 (aa (bu (aa ay (aa (pv 9) aj))) (aa (bu (aa ay (aa (pv 9) aj))) (aa (bu (aa ay (aa (pv 12) aj))) (aa (bu (aa ay (aa (pv 9) aj))) aj))))))
 (ak
 (aF (bP Jl Jq Jr aX (pv 2) (aa (ax av (pv 14) (az aP (az eB (ax av (pv 0) (pv 5) (fun _ _=>rfl)) ag) ag) (fun _ _=>rfl)) aj))))))))))))))))))))))
 (ak
 (aA (pv 2))))))),?_⟩
 have hl:(ns.map V.int).length=ns.length:=J9 _
 refine ⟨(by show 0≤sizeLine;decide),fun l hl0=>?_⟩
 have M1:Made H l (upd H l (.lst [])) [] []:=⟨ai hl0 _,hl0,af,Each.nil,fun dd h=>by cases h⟩
 generalize upd H l (.lst [])=H1 at M1
 refine ⟨_,rfl,a,_,rfl,.inl (M1.same.seq hS),_,rfl,(by rw [hl];omega),(by rw [hl];omega),?_⟩
 rw [hl,Jp]
 refine cO (lo:=0) (n:=ns.length) (fun i σ H2=>∃ (kp now:Int) (v5 v6 v7 v8 v9 v10 v11 v12 v13 v14:Option V) (ps:List Addr) (dds:List wd),σ=[some (.ref a),some (.int c),some (.ref l),some (.int kp),some (.int now),v5,v6,v7,v8,v9,v10,v11,v12,v13,v14] ∧
   Made H l H2 ps dds∧ps.length=i∧0≤kp∧now≤i*10 ^ 41) ⟨0,0,none,none,none,none,none,none,none,none,none,none,[],[],rfl,M1,rfl,Int.le_refl 0,by simp⟩ ?_ ?_
 ·rintro i σ H2 hi ⟨kp,now,v5,v6,v7,v8,v9,v10,v11,v12,v13,v14,ps,dds,rfl,M2,hps,hkp,hnow⟩
  rw [Int.zero_add]
  have ece:=eA hi
  have ec0:=eA (ns:=ns) (i:=0) (by omega)
  generalize ns[i]=ce at ece
  generalize ns[0]=c0 at ec0
  have ec0':atI (ns.map V.int) 0=some (.int c0):=ec0
  have hps2:ps.length<63:=by omega
  refine ⟨_,rfl,_,rfl,a,_,_,_,rfl,rfl,M2.same.seq hS,ece,_,rfl,_,_,rfl,rfl,.inl ⟨by decide,by decide⟩,_,_,rfl,rfl,_,_,rfl,rfl,(by decide:(0:Int)<16),?_⟩
  dsimp -proj -iota only
  have hpk0 : 0≤(ce+5*((i:Nat) : Int)) % 16:=by omega
  generalize (ce+5*((i:Nat) : Int)) % 16=pk at hpk0
  refine ⟨_,rfl,a,_,_,_,rfl,rfl,M2.same.seq hS,ec0',_,_,rfl,rfl,(by decide:(0:Int)<60),_,_,rfl,rfl,(by omega),(by omega),(by decide),fun z1 hz1=>⟨_,_,rfl,rfl,?_,?_⟩⟩
  ·exact Ju (Nat.add_le_add_right hz1 _) (by decide)
  refine ⟨_,rfl,a,_,_,_,rfl,rfl,M2.same.seq hS,ec0',_,_,rfl,rfl,(by decide:(0:Int)<60),_,_,rfl,rfl,_,_,rfl,rfl,(by omega),(by omega),(by decide),fun z2 hz2=>⟨_,_,rfl,rfl,?_,?_⟩⟩
  ·rw [str_len]
   exact Ju (Nat.add_le_add (Nat.add_le_add_right hz1 _) hz2) (by decide)
  refine ⟨_,rfl,_,_,rfl,rfl,(by decide),(by decide),(by decide),fun z3 hz3=>⟨(by show 5≤sizeLine;decide),fun q hq=>?_⟩⟩
  dsimp -proj -iota only at hq ⊢
  generalize z1 ++ "y" ++ z2=tw at hq ⊢
  obtain ⟨wh,ewh⟩:=sx (zs:=["ann","",tw," ann lee, ~ ",z3]) (i:=(ce / 16+((i:Nat) : Int)) % 5) (by omega) (by show _<((5:Nat) : Int);omega)
  have M3:=M2.more (ai hq (.lst [V.str "ann",V.str "",V.str tw,V.str " ann lee, ~ ",V.str z3]))
  refine ⟨_,rfl,_,rfl,a,_,_,_,rfl,rfl,M3.same.seq hS,ece,_,_,rfl,rfl,⟨by decide,by decide⟩,_,rfl,_,_,rfl,rfl,_,_,rfl,rfl,(by decide:(0:Int)<5),q,_,_,_,rfl,rfl,SqL.of af,ewh,?_⟩
  generalize upd H2 q (.lst [V.str "ann",V.str "",V.str tw,V.str " ann lee, ~ ",V.str z3])=H3 at M3
  clear M2
  refine ⟨_,rfl,_,rfl,_,rfl,_,rfl,a,ns,i,c,kp,rfl,M3.same.seq hS,hi,hc,hkp,fun H4 tp sh mm g n s4 htp _ hg=>⟨tp,_,rfl,SqT.of htp,rfl,_,_,rfl,_,_,rfl,_,_,rfl,_,_,rfl,rfl,?_⟩⟩
  replace M3:=M3.more s4
  clear s4 htp
  refine ⟨_,rfl,_,_,rfl,rfl,_,rfl,?_⟩
  refine wx (fun _=>?_) (fun _=>?_)
  ·refine ⟨_,rfl,.inl ⟨rfl,_,SqL.of M3.lst⟩,_,rfl,_,rfl,_,rfl,_,rfl,(by show 5≤sizeLine;decide),fun p hp=>?_⟩
   have M4:=(M3.more (ai hp (.tup [.str "keep",.str wh,.int sh,.int mm,.int g]))).push (dd:=.keep wh sh mm g) af hg
   refine ⟨l,_,_,rfl,rfl,ai hp _ _ _ M3.lst,big (by rw [J9];omega),?_⟩
   refine ⟨_,rfl,_,_,rfl,rfl,?_⟩
   exact ⟨_,_,_,_,_,_,_,_,_,_,_,_,_,_,rfl,M4,by rw [Jc,Jo,hps],(by omega),Int.le_trans hnow (Int.mul_le_mul_of_nonneg_right (by omega) (by decide +kernel))⟩
  refine ⟨_,rfl,_,_,rfl,rfl,_,rfl,?_⟩
  refine wx (fun _=>?_) (fun _=>?_)
  ·refine ⟨_,rfl,.inl ⟨rfl,_,SqL.of M3.lst⟩,(by show 2≤sizeLine;decide),fun q2 hq2=>?_⟩
   replace M3:=M3.more (ai hq2 (.lst [V.str "take",V.str "back"]))
   have q3:(upd H4 q2 (.lst [V.str "take",V.str "back"])) q2=some (.lst [V.str "take",V.str "back"]):=af
   generalize upd H4 q2 (.lst [V.str "take",V.str "back"])=H5 at M3 q3
   have two:pk % 2=0∨pk % 2=1:=by omega
   rcases two with e2 | e2
   ·refine ⟨_,rfl,_,_,rfl,rfl,(by decide:(0:Int)<2),q2,_,_,_,rfl,rfl,SqL.of q3,(by rw [e2];rfl),_,rfl,(by show 2≤sizeLine;decide),fun p hp=>?_⟩
    have M4:=(M3.more (ai hp (.tup [.str "take",.int n]))).push (dd:=.take n) af trivial
    refine ⟨l,_,_,rfl,rfl,ai hp _ _ _ M3.lst,big (by rw [J9];omega),?_⟩
    exact ⟨_,_,_,_,_,_,_,_,_,_,_,_,_,_,rfl,M4,by rw [Jc,Jo,hps],hkp,Int.le_trans hnow (Int.mul_le_mul_of_nonneg_right (by omega) (by decide +kernel))⟩
   ·refine ⟨_,rfl,_,_,rfl,rfl,(by decide:(0:Int)<2),q2,_,_,_,rfl,rfl,SqL.of q3,(by rw [e2];rfl),_,rfl,(by show 2≤sizeLine;decide),fun p hp=>?_⟩
    have M4:=(M3.more (ai hp (.tup [.str "back",.int n]))).push (dd:=.back n) af trivial
    refine ⟨l,_,_,rfl,rfl,ai hp _ _ _ M3.lst,big (by rw [J9];omega),?_⟩
    exact ⟨_,_,_,_,_,_,_,_,_,_,_,_,_,_,rfl,M4,by rw [Jc,Jo,hps],hkp,Int.le_trans hnow (Int.mul_le_mul_of_nonneg_right (by omega) (by decide +kernel))⟩
  refine ⟨_,rfl,rfl,_,rfl,?_⟩
  refine wx (fun _=>?_) (fun _=>?_)
  ·refine ⟨_,rfl,.inl ⟨rfl,_,SqL.of M3.lst⟩,_,rfl,_,rfl,_,rfl,_,rfl,a,_,_,_,rfl,rfl,M3.same.seq hS,ece,_,_,rfl,rfl,⟨by decide,by decide⟩,_,_,rfl,rfl,(by decide:(0:Int)<2),_,_,rfl,rfl,(by show 3≤sizeLine;decide),fun p hp=>?_⟩
   have M4:=(M3.more (ai hp (.tup [.str "part",.int n,.int (mm-ce / 16 % 2)]))).push (dd:=.part n (mm-ce / 16 % 2)) af trivial
   refine ⟨l,_,_,rfl,rfl,ai hp _ _ _ M3.lst,big (by rw [J9];omega),?_⟩
   exact ⟨_,_,_,_,_,_,_,_,_,_,_,_,_,_,rfl,M4,by rw [Jc,Jo,hps],hkp,Int.le_trans hnow (Int.mul_le_mul_of_nonneg_right (by omega) (by decide +kernel))⟩
  refine ⟨_,rfl,rfl,_,rfl,?_⟩
  refine wx (fun _=>?_) (fun _=>?_)
  ·refine ⟨_,rfl,.inl ⟨rfl,_,SqL.of M3.lst⟩,_,rfl,_,rfl,(by show 3≤sizeLine;decide),fun p hp=>?_⟩
   have M4:=(M3.more (ai hp (.tup [.str "move",.int n,.int sh]))).push (dd:=.move n sh) af trivial
   refine ⟨l,_,_,rfl,rfl,ai hp _ _ _ M3.lst,big (by rw [J9];omega),?_⟩
   exact ⟨_,_,_,_,_,_,_,_,_,_,_,_,_,_,rfl,M4,by rw [Jc,Jo,hps],hkp,Int.le_trans hnow (Int.mul_le_mul_of_nonneg_right (by omega) (by decide +kernel))⟩
  refine ⟨_,rfl,rfl,_,rfl,?_⟩
  refine wx (fun _=>?_) (fun _=>?_)
  ·refine ⟨_,rfl,.inl ⟨rfl,_,SqL.of M3.lst⟩,_,rfl,_,rfl,(by show 3≤sizeLine;decide),fun p hp=>?_⟩
   have M4:=(M3.more (ai hp (.tup [.str "pass",.int n,.str wh]))).push (dd:=.pass n wh) af trivial
   refine ⟨l,_,_,rfl,rfl,ai hp _ _ _ M3.lst,big (by rw [J9];omega),?_⟩
   exact ⟨_,_,_,_,_,_,_,_,_,_,_,_,_,_,rfl,M4,by rw [Jc,Jo,hps],hkp,Int.le_trans hnow (Int.mul_le_mul_of_nonneg_right (by omega) (by decide +kernel))⟩
  refine ⟨_,rfl,_,_,rfl,rfl,_,rfl,?_⟩
  refine wx (fun _=>?_) (fun _=>?_)
  ·
   refine ⟨_,rfl,_,rfl,_,rfl,a,_,_,_,rfl,rfl,M3.same.seq hS,ece,_,_,rfl,rfl,⟨by decide,by decide⟩,(by show 2≤sizeLine;decide),fun q2 hq2=>?_⟩
   replace M3:=M3.more (ai hq2 (.lst [V.int 5,V.int 500]))
   have q3:(upd H4 q2 (.lst [V.int 5,V.int 500])) q2=some (.lst [V.int 5,V.int 500]):=af
   generalize upd H4 q2 (.lst [V.int 5,V.int 500])=H5 at M3 q3
   refine ⟨_,rfl,_,rfl,a,_,_,_,rfl,rfl,M3.same.seq hS,ece,_,_,rfl,rfl,(by decide:(0:Int)<11),rfl,.inr ⟨_,rfl,q2,_,_,_,rfl,rfl,SqL.of q3,pickI _ _ _,?_⟩⟩
   have hy:(0:Int)<(if decide (V.int (ce % 11)=V.int 3)=true then 500 else 5)∧(if decide (V.int (ce % 11)=V.int 3)=true then (500:Int) else 5)≤500:=by
    by_cases c:decide (V.int (ce % 11)=V.int 3)=true
    ·rw [J3 c];omega
    ·rw [J0 c];omega
   generalize (if decide (V.int (ce % 11)=V.int 3)=true then (500:Int) else 5)=y at hy
   refine ⟨_,_,rfl,rfl,hy.1,_,_,rfl,rfl,?_⟩
   refine ⟨_,rfl,_,rfl,_,rfl,a,_,_,_,rfl,rfl,M3.same.seq hS,ece,_,_,rfl,rfl,cp40,_,_,rfl,rfl,yl,_,rfl,_,rfl,a,_,_,_,rfl,rfl,M3.same.seq hS,ece,_,_,rfl,rfl,(by decide:(0:Int)<41),rfl,.inr ⟨_,rfl,_,_,rfl,rfl,.inr (kH _),_,_,rfl,rfl,?_⟩⟩
   dsimp -proj -iota only
   have hn2:=sy (x:=ce) hnow hy.1 hy.2 (decide (V.int (ce % 41)=V.int 9))
   generalize now+ce / 16 % y+ce % 10 ^ (40:Int).toNat*(if decide (V.int (ce % 41)=V.int 9)=true then 1 else 0)=now2 at hn2
   refine ⟨_,rfl,_,rfl,a,_,_,_,rfl,rfl,M3.same.seq hS,ece,_,_,rfl,rfl,cp40,_,_,rfl,rfl,yl,_,_,rfl,rfl,(by show 2≤sizeLine;decide),fun q4 hq4=>?_⟩
   dsimp -proj -iota only at hq4 ⊢
   obtain ⟨z,ez,mz⟩:=dC (zs:=[1,2+ce % 10 ^ (40:Int).toNat]) (i:=ce / 23 % 2) (by omega) (by show _<((2:Nat) : Int);omega)
   have hz:=sA mz
   replace M3:=M3.more (ai hq4 (.lst [V.int 1,V.int (2+ce % 10 ^ (40:Int).toNat)]))
   have q5:(upd H5 q4 (.lst [V.int 1,V.int (2+ce % 10 ^ (40:Int).toNat)])) q4=some (.lst [V.int 1,V.int (2+ce % 10 ^ (40:Int).toNat)]):=af
   generalize upd H5 q4 (.lst [V.int 1,V.int (2+ce % 10 ^ (40:Int).toNat)])=H6 at M3 q5
   refine ⟨_,rfl,_,rfl,a,_,_,_,rfl,rfl,M3.same.seq hS,ece,_,_,rfl,rfl,⟨by decide,by decide⟩,_,_,rfl,rfl,(by decide:(0:Int)<2),q4,_,_,_,rfl,rfl,SqL.of q5,ez,?_⟩
   refine ⟨_,rfl,.inl ⟨rfl,_,SqL.of M3.lst⟩,_,rfl,_,rfl,_,rfl,_,rfl,a,_,_,_,rfl,rfl,M3.same.seq hS,ece,_,_,rfl,rfl,(by decide:(0:Int)<23),rfl,.inr ⟨_,rfl,_,_,rfl,rfl,.inr (kH _),_,_,rfl,rfl,(by show 2≤sizeLine;decide),fun p hp=>?_⟩⟩
   have M4:=(M3.more (ai hp (.tup [.str "clock",.int (now2-z*(if decide (V.int (ce % 23)=V.int 8)=true then 1 else 0))]))).push (dd:=.clock (now2-z*(if decide (V.int (ce % 23)=V.int 8)=true then 1 else 0))) af (nN (i:=i+1) (by omega) hn2 hz _)
   refine ⟨l,_,_,rfl,rfl,ai hp _ _ _ M3.lst,big (by rw [J9];omega),?_⟩
   exact ⟨_,_,_,_,_,_,_,_,_,_,_,_,_,_,rfl,M4,by rw [Jc,Jo,hps],hkp,hn2⟩
  ·
   refine ⟨_,rfl,(by show 2≤sizeLine;decide),fun p1 h1=>?_⟩
   replace M3:=M3.more (ai h1 (.tup [.str "free",.int sh]))
   have a1:(upd H4 p1 (.tup [.str "free",.int sh])) p1=some (.tup (wd.free sh).vs):=af
   generalize upd H4 p1 (.tup [.str "free",.int sh])=H5 at M3 a1
   refine ⟨_,rfl,(by show 2≤sizeLine;decide),fun p2 h2=>?_⟩
   replace M3:=M3.more (ai h2 (.tup [.str "row",.int sh]))
   replace a1:=ai h2 (.tup [.str "row",.int sh]) _ _ a1
   have a2:(upd H5 p2 (.tup [.str "row",.int sh])) p2=some (.tup (wd.row sh).vs):=af
   generalize upd H5 p2 (.tup [.str "row",.int sh])=H6 at M3 a1 a2
   refine ⟨_,rfl,(by show 2≤sizeLine;decide),fun p3 h3=>?_⟩
   replace M3:=M3.more (ai h3 (.tup [.str "state",.int n]))
   replace a1:=ai h3 (.tup [.str "state",.int n]) _ _ a1
   replace a2:=ai h3 (.tup [.str "state",.int n]) _ _ a2
   have a3:(upd H6 p3 (.tup [.str "state",.int n])) p3=some (.tup (wd.state n).vs):=af
   generalize upd H6 p3 (.tup [.str "state",.int n])=H7 at M3 a1 a2 a3
   refine ⟨_,rfl,(by show 2≤sizeLine;decide),fun p4 h4=>?_⟩
   replace M3:=M3.more (ai h4 (.tup [.str "row",.int sh]))
   replace a1:=ai h4 (.tup [.str "row",.int sh]) _ _ a1
   replace a2:=ai h4 (.tup [.str "row",.int sh]) _ _ a2
   replace a3:=ai h4 (.tup [.str "row",.int sh]) _ _ a3
   have a4:(upd H7 p4 (.tup [.str "row",.int sh])) p4=some (.tup (wd.row sh).vs):=af
   generalize upd H7 p4 (.tup [.str "row",.int sh])=H8 at M3 a1 a2 a3 a4
   refine ⟨(by show 4≤sizeLine;decide),fun q2 hq2=>?_⟩
   have g9:=ai hq2 (.lst [V.ref p1,V.ref p2,V.ref p3,V.ref p4])
   replace M3:=M3.more g9
   have q9:(upd H8 q2 (.lst [V.ref p1,V.ref p2,V.ref p3,V.ref p4])) q2=some (.lst [V.ref p1,V.ref p2,V.ref p3,V.ref p4]):=af
   have pick:∃ p dd,atI [V.ref p1,V.ref p2,V.ref p3,V.ref p4] (ce / 16 % 4)=some (.ref p)∧(upd H8 q2 (.lst [V.ref p1,V.ref p2,V.ref p3,V.ref p4])) p=some (.tup (wd.vs dd))∧dd.fine:=by
    have:ce / 16 % 4=0∨ce / 16 % 4=1∨ce / 16 % 4=2∨ce / 16 % 4=3:=by omega
    rcases this with e | e | e | e <;> rw [e]
    ·exact ⟨p1,_,rfl,g9 _ _ a1,trivial⟩
    ·exact ⟨p2,_,rfl,g9 _ _ a2,trivial⟩
    ·exact ⟨p3,_,rfl,g9 _ _ a3,trivial⟩
    ·exact ⟨p4,_,rfl,g9 _ _ a4,trivial⟩
   generalize upd H8 q2 (.lst [V.ref p1,V.ref p2,V.ref p3,V.ref p4])=H9 at M3 q9 pick
   obtain ⟨p,dd,ep,hp,hf⟩:=pick
   refine ⟨_,rfl,.inl ⟨rfl,_,SqL.of M3.lst⟩,_,rfl,_,rfl,_,rfl,a,_,_,_,rfl,rfl,M3.same.seq hS,ece,_,_,rfl,rfl,⟨by decide,by decide⟩,_,_,rfl,rfl,(by decide:(0:Int)<4),q2,_,_,_,rfl,rfl,SqL.of q9,ep,?_⟩
   have M4:=M3.push hp hf
   refine ⟨l,_,_,rfl,rfl,M3.lst,big (by rw [J9];omega),?_⟩
   exact ⟨_,_,_,_,_,_,_,_,_,_,_,_,_,_,rfl,M4,by rw [Jc,Jo,hps],hkp,Int.le_trans hnow (Int.mul_le_mul_of_nonneg_right (by omega) (by decide +kernel))⟩
 ·rintro σ H2 ⟨kp,now,v5,v6,v7,v8,v9,v10,v11,v12,v13,v14,ps,dds,rfl,M2,hps,hkp,hnow⟩
  exact ⟨_,rfl,k H2 l ps dds M2 (by omega)⟩
end
end Kp
namespace Kp
open PySem L2
def Aj:Sp:=fun vs H Q _=>∃ (x y:V) (n:Nat),vs=[x,y]∧Alike H x y n∧n≤16000000∧∀ H',wm H H'→Q (.bl true) H'
section
variable {P:Program} {w:World} {K:Ay} {mg:Str→Option Value} {base:Heap}
theorem cJ:wb ["_law_found","_law_due","_law_todo","_law_one","_law_other","_law_k"] ["_law_found","_law_due"] (vZ y6):=L2.wy rfl rfl rfl rfl (by decide +kernel)
theorem sD {f f1:Addr} {fd fd1:FuncData} (F:Fun K "_law_alike" "_law_alike" y6 f fd) (T:Blt mg)
  (F__law_whole:Fun K "_law_whole" "_law_whole" y4 f1 fd1) (b__law_whole:Binds K fd1 ["_law_found"] []) (m__law_whole:mg "_law_whole" = some (.ref f1)) :
  we P w K mg base CX0 2 f fd ["_law_found","_law_due"] Aj:=by
 have G__law_whole:we P w K mg base CX0 1 f1 fd1 ["_law_found"] Af:=rY F__law_whole T
 refine F.ok cJ (fun vs H Q E h=>?_) (fun cdv A outer s H vs Q E hr h=>?_)
 ·obtain ⟨x,y,n,rfl,_⟩:=h
  rfl
 obtain ⟨fx,fy,n0,rfl,hA,hn,k⟩:=h
 refine ⟨_,    (ae
 (aC (i:=2) cJ.nd rfl (Or.inl rfl) (a0 (aa (bu (aa (pv 0) (aa (pv 1) aj))) aj)))
 (ae
 (gG PassesOwn.never (au (jr hr.yA) (pv 2) (a0 aj) (wa _))
 (ae
 (cT (vq Jl PySem.F.slot_list_pop PySem.F.type_list_pop vt (pv 2)) (kO rfl (cE (aO (i:=3) cJ.nd rfl (Or.inl rfl)) (cE (aO (i:=4) cJ.nd rfl (Or.inl rfl)) i5))))
 (ak
 (aH (dZ (aJ b9 rfl T.isinstance br (aa (pv 4) (aa (bu (aa (fz rfl T.list cK) (aa (fz rfl T.tuple jq) aj))) aj))))
 (ae
 (aH (au fD (aJ b9 rfl T.isinstance br (aa (pv 3) (aa (fz rfl T.list cK) aj))) (aJ b9 rfl T.isinstance br (aa (pv 4) (aa (fz rfl T.list cK) aj))) (wa _))
 (ak
 (aA dI))
 aB)
 (ae
 (aH (au fD (aJ b9 rfl T.isinstance br (aa (pv 3) (aa (fz rfl T.tuple jq) aj))) (aJ b9 rfl T.isinstance br (aa (pv 4) (aa (fz rfl T.tuple jq) aj))) (wa _))
 (ak
 (aA dI))
 aB)
 (ae
 (aH (au fD (aJ aG rfl T.len bF (aa (pv 3) aj)) (aJ aG rfl T.len bF (aa (pv 4) aj)) (wa _))
 (ak
 (aA dI))
 aB)
 (ak
 (bU PassesOwn.never rfl (dS rfl T.range (aa (aJ aG rfl T.len bF (aa (pv 4) aj)) aj)) (aO (i:=5) cJ.nd rfl (Or.inl rfl))
 (ak
 (aF (bP Jl Jq Jr aX (pv 2) (aa (bu (aa (ax qI (pv 3) (pv 5) (fun _ _=>rfl)) (aa (ax qI (pv 4) (pv 5) (fun _ _=>rfl)) aj))) aj)))))))))
 (ak
 (aH (au vk (pv 4) eG (wa _))
 (ak
 (aH (au oh (pv 3) eG (wa _))
 (ak
 (aA dI))
 aB))
 (ak
 (aH (dZ (aJ b9 rfl T.isinstance br (aa (pv 4) (aa (fz rfl T.str qR) aj))))
 (ak
 (aH (PW.pt (dJ (fB (dZ (aJ b9 rfl T.isinstance br (aa (pv 3) (aa (fz rfl T.str qR) aj))))) (cM (au fD (pv 3) (pv 4) (wa _)))))
 (ak
 (aA dI))
 aB))
 (ak
 (aH (PW.pt (dJ (fB (dZ (aV G__law_whole hr.mn rfl m__law_whole F__law_whole.kp b__law_whole .nil wg (aa (pv 3) aj)))) (cM (au fD (pv 3) (pv 4) (wa _)))))
 (ak
 (aA dI))
 aB))))))))))
 (ak
 (aA dI)))),?_⟩
 refine ⟨_,rfl,_,rfl,(by show 2≤sizeLine;decide),fun p0 hp0=>⟨(by show 1≤sizeLine;decide),fun td htd=>?_⟩⟩
 have s0:Stk H (upd (upd H p0 (.tup [fx,fy])) td (.lst [.ref p0])) td [⟨p0,fx,fy,n0⟩]:=by
  have e:H td=none:=(ai hp0 _).free htd
  refine ⟨e,(ai hp0 _).trans (ai htd _),af,fun z hz=>?_⟩
  rw [Y5] at hz
  subst hz
  exact ⟨ai htd _ _ _ af,hA⟩
 refine ⟨fun m σ H1=>∃ (l r c:Option V) (zs:List Z),σ=[some fx,some fy,some (.ref td),l,r,c]∧Stk H H1 td zs∧m=tot zs∧m≤16000000,⟨_,none,none,none,_,rfl,s0,rfl,by simpa [tot] using hn⟩,?_⟩
 rintro m σ H1 ⟨l,r,c,zs,rfl,st,rfl,hm⟩
 refine ⟨_,rfl,(by show 0≤sizeLine;decide),fun q hq=>⟨td,q,_,rfl,rfl,SqL.of (ai hq _ _ _ st.at_),af,_,rfl,?_⟩⟩
 have st1:=st.more (ai hq (.lst []))
 generalize upd H1 q (.lst [])=H2 at st1
 by_cases hz:zs=[]
 ·subst hz
  exact yo (k H2 st1.same)
 ·obtain ⟨zi,z,rfl⟩:=oA zs hz
  refine ifT (by simp [refs]) ⟨fun σ' H'=>∃ m',m'<tot (zi++[z])∧∃ (l r c:Option V) (zs:List Z),σ'=[some fx,some fy,some (.ref td),l,r,c]∧Stk H H' td zs∧m'=tot zs∧m'≤16000000,fun _ _ h=>h,?_⟩
  have hzz:=st1.all z (by simp)
  have nz:z.p≠td:=bS hzz.1 st1.at_ (by intro q;cases q)
  refine ⟨_,rfl,.inl ⟨rfl,_,SqL.of st1.at_⟩,td,_,.ref z.p,rfl,rfl,st1.at_,(by rw [iH];exact uw _ _),z.p,[z.x,z.y],rfl,SqT.of (by rw [ao nz];exact hzz.1),rfl,z.x,_,rfl,z.y,_,rfl,rfl,?_⟩
  have e3:(refs (zi++[z])).dropLast=refs zi:=by rw [iH,List.dropLast_concat]
  have st3:=st1.put (zs':=zi) fun y hy=>st1.all y (Ye _ hy)
  rw [e3]
  generalize upd H2 td (.lst (refs zi))=H3 at st3
  have ht:tot (zi++[z])=tot zi+z.n:=by rw [oz];simp [tot]
  have hp:=hzz.2.pos
  obtain ⟨zp,zx,zy,zn⟩:=z
  simp only at hzz ht hp ⊢
  have done:∀ {l r c:Option V} {H':Hp},Stk H H' td zi→∃ m',m'<tot (zi++[⟨zp,zx,zy,zn⟩])∧∃ (l' r' c':Option V) (zs:List Z),([some fx,some fy,some (V.ref td),l,r,c] : St)=[some fx,some fy,some (.ref td),l',r',c']∧Stk H H' td zs∧m'=tot zs∧m'≤16000000 :=
   fun {l r c H'} s'=>⟨tot zi,by omega,l,r,c,zi,rfl,s',rfl,by omega⟩
  cases hzz.2 with
  | int i =>
   refine ⟨_,rfl,lD,fun q1 hq1=>⟨_,_,_,false,rfl,.int i,.tup (ns:=["list","tuple"]) af pE,false,rfl,yo ?_⟩⟩
   have st4:=st3.more (ai hq1 (.tup [.ty "list",.ty "tuple"]))
   generalize upd H3 q1 (.tup [.ty "list",.ty "tuple"])=H4 at st4
   refine ⟨_,rfl,rfl,_,rfl,ifF rfl ?_⟩
   refine ⟨_,rfl,_,_,_,false,rfl,.int i,.one pH,_,rfl,ifF rfl ?_⟩
   refine ⟨_,rfl,i,rfl,_,rfl,ifF rfl ?_⟩
   refine ⟨_,rfl,_,rfl,rfl,_,rfl,ifF (by simp) ?_⟩
   exact done st4
  | str x =>
   refine ⟨_,rfl,lD,fun q1 hq1=>⟨_,_,_,false,rfl,.str x,.tup (ns:=["list","tuple"]) af pF,false,rfl,yo ?_⟩⟩
   have st4:=st3.more (ai hq1 (.tup [.ty "list",.ty "tuple"]))
   generalize upd H3 q1 (.tup [.ty "list",.ty "tuple"])=H4 at st4
   refine ⟨_,rfl,rfl,_,rfl,ifF rfl ?_⟩
   refine ⟨_,rfl,_,_,_,true,rfl,.str x,.one kz,_,rfl,ifT rfl ?_⟩
   refine ⟨_,rfl,_,_,_,true,rfl,.str x,.one kz,_,rfl,ifF rfl ?_⟩
   refine ⟨_,rfl,_,rfl,rfl,_,rfl,ifF (by simp) ?_⟩
   exact done st4
  | non =>
   refine ⟨_,rfl,lD,fun q1 hq1=>⟨_,_,_,false,rfl,.non,.tup (ns:=["list","tuple"]) af pG,false,rfl,yo ?_⟩⟩
   have st4:=st3.more (ai hq1 (.tup [.ty "list",.ty "tuple"]))
   generalize upd H3 q1 (.tup [.ty "list",.ty "tuple"])=H4 at st4
   refine ⟨_,rfl,rfl,_,rfl,ifT rfl ?_⟩
   refine ⟨_,rfl,rfl,_,rfl,ifF rfl ?_⟩
   exact done st4
  | @seq kd a b xs ys n ha hb hL =>
   have hlen:=hL.len
   refine ⟨_,rfl,lD,fun q1 hq1=>⟨_,_,_,true,rfl,fh (ai hq1 _ _ _ (st3.same _ _ hb)),.tup (ns:=["list","tuple"]) af (rC kd),true,rfl,xq ?_⟩⟩
   have st4:=st3.more (ai hq1 (.tup [.ty "list",.ty "tuple"]))
   generalize upd H3 q1 (.tup [.ty "list",.ty "tuple"])=H4 at st4
   refine ⟨_,rfl,_,_,_,kd,rfl,fh (st4.same _ _ ha),.one (gZ kd),_,rfl,_,_,_,kd,rfl,fh (st4.same _ _ hb),.one (gZ kd),rfl,_,rfl,ifF (by simp) ?_⟩
   refine ⟨_,rfl,_,_,_,!kd,rfl,fh (st4.same _ _ ha),.one (mw kd),_,rfl,_,_,_,!kd,rfl,fh (st4.same _ _ hb),.one (mw kd),rfl,_,rfl,ifF (by simp) ?_⟩
   have st5:=st4
   refine ⟨_,rfl,a,_,rfl,rB (st5.same _ _ ha),_,rfl,b,_,rfl,rB (st5.same _ _ hb),rfl,_,rfl,ifF (by simp [hlen.1]) ?_⟩
   refine ⟨_,rfl,b,_,rfl,rB (st5.same _ _ hb),_,rfl,by omega,by omega,?_⟩
   rw [Jp]
   refine cO (lo:=0) (n:=ys.length) (fun i σ H'=>∃ (c:Option V) (zs:List Z),σ=[some fx,some fy,some (.ref td),some (.ref a),some (.ref b),c]∧Push H xs ys (tot zi+n) i H' td zs) ⟨_,zi,rfl,n,st5,hL,Jm _⟩ ?_ ?_
   ·rintro i σ H' hi ⟨c,zs,rfl,r,s6,hR,hs⟩
    obtain ⟨x,y,m1,n1,rfl,ex,ey,hxy,hrest⟩:=nB hR hi (by omega)
    have hlong:=s6.long
    refine ⟨_,rfl,.inl ⟨rfl,_,SqL.of s6.at_⟩,_,rfl,_,rfl,u4 (s6.same _ _ ha) ex ⟨_,rfl,_,rfl,u4 (s6.same _ _ hb) ey ⟨(by show 2≤sizeLine;decide),fun p6 hp6=>?_⟩⟩⟩
    have s7:=s6.more (ai hp6 (.tup [x,y]))
    have e7:(upd H' p6 (.tup [x,y])) p6=some (.tup [x,y]):=af
    generalize upd H' p6 (.tup [x,y])=H7 at s7 e7
    refine ⟨td,_,.ref p6,rfl,rfl,s7.at_,huge (by simp only [refs,J9];omega),?_⟩
    have s8:=s7.put (zs':=zs++[⟨p6,x,y,m1⟩]) fun z hz=>by
     rcases Y1.mp hz with h | h
     ·exact s7.all z h
     ·rw [Y5] at h
      subst h
      exact ⟨e7,hxy⟩
    rw [iH] at s8
    have et:tot (zs++[⟨p6,x,y,m1⟩])=tot zs+m1:=by rw [oz];simp [tot]
    exact ⟨_,_,rfl,n1,s8,hrest,by omega⟩
   ·rintro σ H' ⟨c,zs,rfl,r,s6,hR,hs⟩
    exact ⟨tot zs,by omega,_,_,_,zs,rfl,s6,rfl,by omega⟩
end
end Kp
namespace Kp
open PySem L2
abbrev yW:Stmt:=inClass (top 1) 0
abbrev sKi:Stmt:=inClass (top 16) 0
abbrev zR:Stmt:=inClass (top 16) 1
abbrev zS:Stmt:=inClass (top 16) 2
abbrev zj:Stmt:=inClass (top 16) 3
abbrev zT:Stmt:=inClass (top 16) 4
abbrev zU:Stmt:=inClass (top 16) 5
abbrev zV:Stmt:=inClass (top 16) 6
abbrev yH:Stmt:=inClass (top 16) 7
structure Txt (K:Ay) (mg:Str→Option Value) (T:Cs) : Prop where
 ck:Cls K T.K
 cs:Cls K T.S
 cy:Cls K T.Y
 kn:wN K T.K "number"
 kw:wN K T.K "who"
 kh:wN K T.K "show"
 km:wN K T.K "many"
 kp:wN K T.K "span"
 ks:wN K T.K "state"
 ku:wN K T.K "until"
 sr:wN K T.S "room"
 sh:wN K T.S "here"
 sw:wN K T.S "row"
 yh:wN K T.Y "shows"
 yk:wN K T.Y "keepings"
 yn:wN K T.Y "now"
 HELD:mg "HELD" = some (.str "held" T.tH)
 TAKEN:mg "TAKEN" = some (.str "taken" T.tT)
 WAITING:mg "WAITING" = some (.str "waiting" T.tW)
 GONE:mg "GONE" = some (.str "gone" T.tG)
 len:mg "len" = none
 sum:mg "sum" = none
 min:mg "min" = none
 eqK:EqC K T.K
 nyk:T.Y≠T.K
 nys:T.Y≠T.S
 nsk:T.S≠T.K
theorem few (i:Nat) (r:Rec) : (wu i r).length<1000:=by show 7<1000;decide
section
variable {P:Program} {w:World} {K:Ay} {mg:Str→Option Value} {base:Heap} {T:Cs}
def spRef (K:Ay) (R:Addr) : Sp:=fun vs H Q _=>∃ (a C:Addr) (t:Str),vs=[.ref a,.str t]∧xC K R C∧H a=some (XO a C none)∧∀ dx,H dx=none→Q .non (upd (upd H dx (.xd [("text",.str t)])) a (XO a C (some dx)))
theorem iX:wb ["self","text"] ["self","text"] (vZ yW):=L2.wy rfl rfl rfl rfl (by decide +kernel)
theorem nO {R f:Addr} {fd:FuncData} (F:Fun K "__init__" "Refusal.__init__" yW f fd) (me:mg "Exception" = none)
  (hga:PySem.W.findIn K (.type "type") "__getattribute__" = some (some (.builtin "type.__getattribute__"))) (sb:PySem.W.subIn K (.type "type") (.type "type")=some true) (fc:PySem.W.findCls K (.type "Exception") (.type "type") "__init__" = some (.val (.builtin "Exception.__init__"))) :
  we P w K mg base CX0 1 f fd ["self","text"] (spRef K R):=by
 refine F.ok iX (fun vs H Q E h=>?_) (fun cdv A outer s H vs Q E hr h=>?_)
 ·obtain ⟨a,C,t,rfl,_⟩:=h
  rfl
 obtain ⟨a,C,t,rfl,ec,ha,k⟩:=h
 refine ⟨_,ae (aF (nD (R:=R) rfl me hga sb fc (aa (pv 0) (aa (pv 1) aj)))) (ak (uA (R:=R) (pv 0) (pv 1) rfl)),?_⟩
 exact ⟨_,rfl,_,rfl,a,C,none,_,rfl,ha,ec,_,rfl,_,rfl,a,C,rfl,rfl,ha,ec,k⟩
structure yQ (P:Program) (w:World) (K:Ay) (mg:Str→Option Value) (base:Heap) (R fR:Addr) (fdR:FuncData) : Prop where
 ok:we P w K mg base CX0 1 fR fdR ["self","text"] (spRef K R)
 kp:PySem.W.keepIn K (.ref fR)=true
 bn:Binds K fdR ["self","text"] []
 mg:mg "Refusal" = some (.ref R)
 rd:PySem.W.readsIn K R (.type "type")=true
 fc:PySem.W.findCls K (.ref R) (.type "type") "__init__" = some (.val (.ref fR))
 sg:PySem.W.specialIn K (.ref R) "__getattribute__" = some (some (.builtin "type.__getattribute__"))
abbrev xD:Stmt:=inClass (top 2) 0
theorem jY:wb ["self"] ["self"] (vZ xD):=L2.wy rfl rfl rfl rfl (by decide +kernel)
theorem jZ {R C f fR:Addr} {fd fdR:FuncData} (F:Fun K "__init__" "NoKeeping.__init__" xD f fd) (ec:xC K R C) (D:yQ P w K mg base R fR fdR) : we P w K mg base CX0 2 f fd ["self"] (xt C "no keeping"):=by
 refine F.ok jY (fun vs H Q E h=>?_) (fun cdv A outer s H vs Q E hr h=>?_)
 ·obtain ⟨a,rfl,_⟩:=h
  rfl
 obtain ⟨a,rfl,ha,k⟩:=h
 exact ⟨_,ak (aF (dP rfl D.mg D.rd D.fc D.sg D.ok hr D.kp D.bn .nil wg (aa (pv 0) (aa ay aj)))),_,rfl,a,C,_,rfl,ec,ha,k⟩
abbrev yI:Stmt:=inClass (top 3) 0
theorem nP:wb ["self"] ["self"] (vZ yI):=L2.wy rfl rfl rfl rfl (by decide +kernel)
theorem nQ {R C f fR:Addr} {fd fdR:FuncData} (F:Fun K "__init__" "NoShow.__init__" yI f fd) (ec:xC K R C) (D:yQ P w K mg base R fR fdR) : we P w K mg base CX0 2 f fd ["self"] (xt C "no show"):=by
 refine F.ok nP (fun vs H Q E h=>?_) (fun cdv A outer s H vs Q E hr h=>?_)
 ·obtain ⟨a,rfl,_⟩:=h
  rfl
 obtain ⟨a,rfl,ha,k⟩:=h
 exact ⟨_,ak (aF (dP rfl D.mg D.rd D.fc D.sg D.ok hr D.kp D.bn .nil wg (aa (pv 0) (aa ay aj)))),_,rfl,a,C,_,rfl,ec,ha,k⟩
abbrev xQ:Stmt:=inClass (top 4) 0
theorem lJ:wb ["self"] ["self"] (vZ xQ):=L2.wy rfl rfl rfl rfl (by decide +kernel)
theorem lK {R C f fR:Addr} {fd fdR:FuncData} (F:Fun K "__init__" "NoPlaces.__init__" xQ f fd) (ec:xC K R C) (D:yQ P w K mg base R fR fdR) : we P w K mg base CX0 2 f fd ["self"] (xt C "no places"):=by
 refine F.ok lJ (fun vs H Q E h=>?_) (fun cdv A outer s H vs Q E hr h=>?_)
 ·obtain ⟨a,rfl,_⟩:=h
  rfl
 obtain ⟨a,rfl,ha,k⟩:=h
 exact ⟨_,ak (aF (dP rfl D.mg D.rd D.fc D.sg D.ok hr D.kp D.bn .nil wg (aa (pv 0) (aa ay aj)))),_,rfl,a,C,_,rfl,ec,ha,k⟩
abbrev yb:Stmt:=inClass (top 5) 0
theorem mJ:wb ["self"] ["self"] (vZ yb):=L2.wy rfl rfl rfl rfl (by decide +kernel)
theorem mK {R C f fR:Addr} {fd fdR:FuncData} (F:Fun K "__init__" "TooMany.__init__" yb f fd) (ec:xC K R C) (D:yQ P w K mg base R fR fdR) : we P w K mg base CX0 2 f fd ["self"] (xt C "too many"):=by
 refine F.ok mJ (fun vs H Q E h=>?_) (fun cdv A outer s H vs Q E hr h=>?_)
 ·obtain ⟨a,rfl,_⟩:=h
  rfl
 obtain ⟨a,rfl,ha,k⟩:=h
 exact ⟨_,ak (aF (dP rfl D.mg D.rd D.fc D.sg D.ok hr D.kp D.bn .nil wg (aa (pv 0) (aa ay aj)))),_,rfl,a,C,_,rfl,ec,ha,k⟩
abbrev yJ:Stmt:=inClass (top 6) 0
theorem nS:wb ["self"] ["self"] (vZ yJ):=L2.wy rfl rfl rfl rfl (by decide +kernel)
theorem nU {R C f fR:Addr} {fd fdR:FuncData} (F:Fun K "__init__" "NoSpan.__init__" yJ f fd) (ec:xC K R C) (D:yQ P w K mg base R fR fdR) : we P w K mg base CX0 2 f fd ["self"] (xt C "no span"):=by
 refine F.ok nS (fun vs H Q E h=>?_) (fun cdv A outer s H vs Q E hr h=>?_)
 ·obtain ⟨a,rfl,_⟩:=h
  rfl
 obtain ⟨a,rfl,ha,k⟩:=h
 exact ⟨_,ak (aF (dP rfl D.mg D.rd D.fc D.sg D.ok hr D.kp D.bn .nil wg (aa (pv 0) (aa ay aj)))),_,rfl,a,C,_,rfl,ec,ha,k⟩
abbrev yc:Stmt:=inClass (top 7) 0
theorem mL:wb ["self"] ["self"] (vZ yc):=L2.wy rfl rfl rfl rfl (by decide +kernel)
theorem mM {R C f fR:Addr} {fd fdR:FuncData} (F:Fun K "__init__" "NotHeld.__init__" yc f fd) (ec:xC K R C) (D:yQ P w K mg base R fR fdR) : we P w K mg base CX0 2 f fd ["self"] (xt C "not held"):=by
 refine F.ok mL (fun vs H Q E h=>?_) (fun cdv A outer s H vs Q E hr h=>?_)
 ·obtain ⟨a,rfl,_⟩:=h
  rfl
 obtain ⟨a,rfl,ha,k⟩:=h
 exact ⟨_,ak (aF (dP rfl D.mg D.rd D.fc D.sg D.ok hr D.kp D.bn .nil wg (aa (pv 0) (aa ay aj)))),_,rfl,a,C,_,rfl,ec,ha,k⟩
abbrev xR:Stmt:=inClass (top 8) 0
theorem lL:wb ["self"] ["self"] (vZ xR):=L2.wy rfl rfl rfl rfl (by decide +kernel)
theorem lM {R C f fR:Addr} {fd fdR:FuncData} (F:Fun K "__init__" "SameShow.__init__" xR f fd) (ec:xC K R C) (D:yQ P w K mg base R fR fdR) : we P w K mg base CX0 2 f fd ["self"] (xt C "same show"):=by
 refine F.ok lL (fun vs H Q E h=>?_) (fun cdv A outer s H vs Q E hr h=>?_)
 ·obtain ⟨a,rfl,_⟩:=h
  rfl
 obtain ⟨a,rfl,ha,k⟩:=h
 exact ⟨_,ak (aF (dP rfl D.mg D.rd D.fc D.sg D.ok hr D.kp D.bn .nil wg (aa (pv 0) (aa ay aj)))),_,rfl,a,C,_,rfl,ec,ha,k⟩
abbrev zW:Stmt:=inClass (top 9) 0
theorem sE:wb ["self"] ["self"] (vZ zW):=L2.wy rfl rfl rfl rfl (by decide +kernel)
theorem sH {R C f fR:Addr} {fd fdR:FuncData} (F:Fun K "__init__" "Full.__init__" zW f fd) (ec:xC K R C) (D:yQ P w K mg base R fR fdR) : we P w K mg base CX0 2 f fd ["self"] (xt C "full"):=by
 refine F.ok sE (fun vs H Q E h=>?_) (fun cdv A outer s H vs Q E hr h=>?_)
 ·obtain ⟨a,rfl,_⟩:=h
  rfl
 obtain ⟨a,rfl,ha,k⟩:=h
 exact ⟨_,ak (aF (dP rfl D.mg D.rd D.fc D.sg D.ok hr D.kp D.bn .nil wg (aa (pv 0) (aa ay aj)))),_,rfl,a,C,_,rfl,ec,ha,k⟩
abbrev xS:Stmt:=inClass (top 10) 0
theorem lN:wb ["self"] ["self"] (vZ xS):=L2.wy rfl rfl rfl rfl (by decide +kernel)
theorem lO {R C f fR:Addr} {fd fdR:FuncData} (F:Fun K "__init__" "TooEarly.__init__" xS f fd) (ec:xC K R C) (D:yQ P w K mg base R fR fdR) : we P w K mg base CX0 2 f fd ["self"] (xt C "too early"):=by
 refine F.ok lN (fun vs H Q E h=>?_) (fun cdv A outer s H vs Q E hr h=>?_)
 ·obtain ⟨a,rfl,_⟩:=h
  rfl
 obtain ⟨a,rfl,ha,k⟩:=h
 exact ⟨_,ak (aF (dP rfl D.mg D.rd D.fc D.sg D.ok hr D.kp D.bn .nil wg (aa (pv 0) (aa ay aj)))),_,rfl,a,C,_,rfl,ec,ha,k⟩
def ye (T:Cs) (n:Nat) (g:List V→Rec→Rec→Prop) : Sp:=fun vs H Q _=>∃ (q d:Addr) (i:Nat) (r r':Rec) (xs:List V),vs=.ref q::xs∧xs.length=n∧H q=some (.ins T.K d (wu i r))∧g xs r r'∧Q .non (upd H q (.ins T.K d (wu i r')))
abbrev gHold:List V→Rec→Rec→Prop:=fun xs r r'=>∃ t,xs=[.int t]∧r'=r.hold t
abbrev gTake:List V→Rec→Rec→Prop:=fun _ r r'=>r'={ r with st:=.taken,til:=none }
abbrev zX:List V→Rec→Rec→Prop:=fun _ r r'=>r'=r.go
abbrev gGive:List V→Rec→Rec→Prop:=fun xs r r'=>∃ m,xs=[.int m]∧r'={ r with many:=r.many-m }
abbrev gMove:List V→Rec→Rec→Prop:=fun xs r r'=>∃ m:Nat,xs=[.int (m:Nat)]∧r'={ r with shw:=m }
abbrev gPass:List V→Rec→Rec→Prop:=fun xs r r'=>∃ x,xs=[.str x]∧r'={ r with who:=x }
theorem iY:wb ["self","now"] ["self","now"] (vZ zR):=L2.wy rfl rfl rfl rfl (by decide +kernel)
theorem sI {f:Addr} {fd:FuncData} (F:Fun K "hold" "Keeping.hold" zR f fd) (T':Txt K mg T) : we P w K mg base CX0 1 f fd ["self","now"] (ye T 1 gHold):=by
 have T:=T'
 refine F.ok iY (fun vs H Q E h=>?_) (fun cdv A outer s H vs Q E hr h=>?_)
 ·obtain ⟨q,d,i,r,r',xs,rfl,e,_⟩:=h
  show xs.length+1=2
  omega
 obtain ⟨q,d,i,r,r',xs,rfl,e,hq,⟨t,rfl,rfl⟩,k⟩:=h
 refine ⟨_,    (ae
 (bH (pv 0) (cz (v:=.str "held") rfl T.HELD ⟨_,rfl⟩) rfl)
 (ak
 (bH (pv 0) (az bh (pv 1) (aL (pv 0) rfl)) rfl))),?_⟩
 refine ⟨_,rfl,q,_,d,_,rfl,hq,T.ck,T.ks,few i r,?_⟩
 refine wz (H':=upd H q (.ins _ d (wu i { r with st:=.held }))) (by rw [← lH];rfl) ?_
 refine ⟨_,rfl,_,rfl,q,_,d,_,_,rfl,af,T.ck,T.kp,vF _ _,_,_,rfl,rfl,_,rfl,q,_,d,_,rfl,af,T.ck,T.ku,few _ _,?_⟩
 refine wz (H':=upd H q (.ins _ d (wu i (r.hold t)))) ?_ k
 rw [cS]
 congr 2
theorem iZ:wb ["self"] ["self"] (vZ zS):=L2.wy rfl rfl rfl rfl (by decide +kernel)
theorem sJ {f:Addr} {fd:FuncData} (F:Fun K "take" "Keeping.take" zS f fd) (T':Txt K mg T) : we P w K mg base CX0 1 f fd ["self"] (ye T 0 gTake):=by
 have T:=T'
 refine F.ok iZ (fun vs H Q E h=>?_) (fun cdv A outer s H vs Q E hr h=>?_)
 ·obtain ⟨q,d,i,r,r',xs,rfl,e,_⟩:=h
  show xs.length+1=1
  omega
 obtain ⟨q,d,i,r,r',xs,rfl,e,hq,rfl,k⟩:=h
 obtain rfl:=List.length_eq_zero_iff.mp e
 refine ⟨_,    (ae
 (bH (pv 0) (cz (v:=.str "taken") rfl T.TAKEN ⟨_,rfl⟩) rfl)
 (ak
 (bH (pv 0) eG rfl))),?_⟩
 refine ⟨_,rfl,q,_,d,_,rfl,hq,T.ck,T.ks,few i r,?_⟩
 refine wz (H':=upd H q (.ins _ d (wu i { r with st:=.taken }))) (by rw [← lH];rfl) ?_
 refine ⟨_,rfl,q,_,d,_,rfl,af,T.ck,T.ku,few _ _,?_⟩
 refine wz ?_ k
 rw [cS]
 congr 2
theorem iJ:wb ["self"] ["self"] (vZ zj):=L2.wy rfl rfl rfl rfl (by decide +kernel)
theorem qb {f:Addr} {fd:FuncData} (F:Fun K "leave" "Keeping.leave" zj f fd) (T':Txt K mg T) : we P w K mg base CX0 1 f fd ["self"] (ye T 0 zX):=by
 have T:=T'
 refine F.ok iJ (fun vs H Q E h=>?_) (fun cdv A outer s H vs Q E hr h=>?_)
 ·obtain ⟨q,d,i,r,r',xs,rfl,e,_⟩:=h
  show xs.length+1=1
  omega
 obtain ⟨q,d,i,r,r',xs,rfl,e,hq,rfl,k⟩:=h
 obtain rfl:=List.length_eq_zero_iff.mp e
 refine ⟨_,    (ae
 (bH (pv 0) (cz (v:=.str "gone") rfl T.GONE ⟨_,rfl⟩) rfl)
 (ak
 (bH (pv 0) eG rfl))),?_⟩
 refine ⟨_,rfl,q,_,d,_,rfl,hq,T.ck,T.ks,few i r,?_⟩
 refine wz (H':=upd H q (.ins _ d (wu i { r with st:=.gone }))) (by rw [← lH];rfl) ?_
 refine ⟨_,rfl,q,_,d,_,rfl,af,T.ck,T.ku,few _ _,?_⟩
 refine wz ?_ k
 rw [cS]
 congr 2
theorem fK:wb ["self","many"] ["self","many"] (vZ zT):=L2.wy rfl rfl rfl rfl (by decide +kernel)
theorem sL {f:Addr} {fd:FuncData} (F:Fun K "give_back" "Keeping.give_back" zT f fd) (T':Txt K mg T) : we P w K mg base CX0 1 f fd ["self","many"] (ye T 1 gGive):=by
 have T:=T'
 refine F.ok fK (fun vs H Q E h=>?_) (fun cdv A outer s H vs Q E hr h=>?_)
 ·obtain ⟨q,d,i,r,r',xs,rfl,e,_⟩:=h
  show xs.length+1=2
  omega
 obtain ⟨q,d,i,r,r',xs,rfl,e,hq,⟨m,rfl,rfl⟩,k⟩:=h
 refine ⟨_,    (ak
 (bH (pv 0) (az cC (aL (pv 0) rfl) (pv 1)) rfl)),?_⟩
 refine ⟨_,rfl,q,_,d,_,_,rfl,hq,T.ck,T.km,fH _ _,_,rfl,_,_,rfl,rfl,_,rfl,q,_,d,_,rfl,hq,T.ck,T.km,few i r,?_⟩
 exact wz (congrArg (fun l=>upd H q (HO.ins _ d l)) (vG i r (r.many-m))) k
theorem gu:wb ["self","show"] ["self","show"] (vZ zU):=L2.wy rfl rfl rfl rfl (by decide +kernel)
theorem sM {f:Addr} {fd:FuncData} (F:Fun K "move_to" "Keeping.move_to" zU f fd) (T':Txt K mg T) : we P w K mg base CX0 1 f fd ["self","show"] (ye T 1 gMove):=by
 have T:=T'
 refine F.ok gu (fun vs H Q E h=>?_) (fun cdv A outer s H vs Q E hr h=>?_)
 ·obtain ⟨q,d,i,r,r',xs,rfl,e,_⟩:=h
  show xs.length+1=2
  omega
 obtain ⟨q,d,i,r,r',xs,rfl,e,hq,⟨m,rfl,rfl⟩,k⟩:=h
 refine ⟨_,    (ak
 (bH (pv 0) (pv 1) rfl)),?_⟩
 refine ⟨_,rfl,_,rfl,q,_,d,_,rfl,hq,T.ck,T.kh,few i r,?_⟩
 exact wz (congrArg (fun l=>upd H q (HO.ins _ d l)) (vH i r m)) k
theorem gv:wb ["self","who"] ["self","who"] (vZ zV):=L2.wy rfl rfl rfl rfl (by decide +kernel)
theorem sN {f:Addr} {fd:FuncData} (F:Fun K "pass_to" "Keeping.pass_to" zV f fd) (T':Txt K mg T) : we P w K mg base CX0 1 f fd ["self","who"] (ye T 1 gPass):=by
 have T:=T'
 refine F.ok gv (fun vs H Q E h=>?_) (fun cdv A outer s H vs Q E hr h=>?_)
 ·obtain ⟨q,d,i,r,r',xs,rfl,e,_⟩:=h
  show xs.length+1=2
  omega
 obtain ⟨q,d,i,r,r',xs,rfl,e,hq,⟨m,rfl,rfl⟩,k⟩:=h
 refine ⟨_,    (ak
 (bH (pv 0) (pv 1) rfl)),?_⟩
 refine ⟨_,rfl,_,rfl,q,_,d,_,rfl,hq,T.ck,T.kw,few i r,?_⟩
 exact wz (congrArg (fun l=>upd H q (HO.ins _ d l)) (p_who i r m)) k
def zH (T:Cs) : Sp:=fun vs H Q _=>∃ (q d:Addr) (i:Nat) (r:Rec),vs=[.ref q]∧H q=some (.ins T.K d (wu i r))∧Q (.int r.takes) H
theorem sO (r:Rec) : decide (V.str r.st.txt=V.str "taken")=decide (r.st=.taken):=by cases r.st <;> decide +kernel
theorem fk:wb ["self"] ["self"] (vZ yH):=L2.wy rfl rfl rfl rfl (by decide +kernel)
theorem nV {f:Addr} {fd:FuncData} (F:Fun K "places_kept" "Keeping.places_kept" yH f fd) (T':Txt K mg T) : we P w K mg base CX0 1 f fd ["self"] (zH T):=by
 have T:=T'
 refine F.ok fk (fun vs H Q E h=>?_) (fun cdv A outer s H vs Q E hr h=>?_)
 ·obtain ⟨q,d,i,r,rfl,_⟩:=h
  rfl
 obtain ⟨q,d,i,r,rfl,hq,k⟩:=h
 refine ⟨_,    (ae
 (aH (PW.pt (dJ (au bb (aL (pv 0) rfl) (cz (v:=.str "held") rfl T.HELD ⟨_,rfl⟩) (wa _)) (cM (au bb (aL (pv 0) rfl) (cz (v:=.str "taken") rfl T.TAKEN ⟨_,rfl⟩) (wa _)))))
 (ak
 (aA (aL (pv 0) rfl)))
 aB)
 (ak
 (aA ag))),?_⟩
 refine ⟨_,rfl,q,_,d,_,_,rfl,hq,T.ck,T.ks,cL _ _,rfl,_,rfl,?_⟩
 rw [show decide (V.str r.st.txt=V.str "held")=decide (r.st=.held) from ip r]
 refine wx (fun c=>?_) (fun c=>?_)
 ·have e:r.takes=r.many:=J3 (by unfold Rec.kept;rw [c];rfl)
  rw [e] at k
  exact xq ⟨_,rfl,q,_,d,_,_,rfl,hq,T.ck,T.km,fH _ _,k⟩
 ·refine ⟨_,rfl,q,_,d,_,_,rfl,hq,T.ck,T.ks,cL _ _,rfl,_,rfl,?_⟩
  rw [show decide (V.str r.st.txt=V.str "taken")=decide (r.st=.taken) from sO r]
  refine wx (fun c2=>?_) (fun c2=>?_)
  ·have e:r.takes=r.many:=J3 (by unfold Rec.kept;rw [c2,Bool.or_true])
   rw [e] at k
   exact ⟨_,rfl,q,_,d,_,_,rfl,hq,T.ck,T.km,fH _ _,k⟩
  ·have e:r.takes=0:=J0 (by unfold Rec.kept;rw [Bool.eq_false_iff.mpr c,Bool.eq_false_iff.mpr c2];decide)
   rw [e] at k
   exact k
def Ak (T:Cs) : Sp:=fun vs H Q _=>∃ (q d:Addr) (i:Nat) (x:Str) (s:Nat) (m p:Int),vs=[.ref q,.int (i:Nat),.str x,.int (s:Nat),.int m,.int p]∧H q=some (.ins T.K d [])∧Q .non (upd H q (.ins T.K d (wu i ⟨x,s,m,p,.waiting,none⟩)))
theorem sc_Keeping___init__:wb ["self","number","who","show","many","span"] ["self","number","who","show","many","span"] (vZ sKi):=L2.wy rfl rfl rfl rfl (by decide +kernel)
theorem sP {f:Addr} {fd:FuncData} (F:Fun K "__init__" "Keeping.__init__" sKi f fd) (T':Txt K mg T) : we P w K mg base CX0 1 f fd ["self","number","who","show","many","span"] (Ak T):=by
 have T:=T'
 refine F.ok sc_Keeping___init__ (fun vs H Q E h=>?_) (fun cdv A outer s H vs Q E hr h=>?_)
 ·obtain ⟨q,d,i,x,sh,m,p,rfl,_⟩:=h
  rfl
 obtain ⟨q,d,i,x,sh,m,p,rfl,hq,k⟩:=h
 refine ⟨_,    (ae
 (bH (pv 0) (pv 1) rfl)
 (ae
 (bH (pv 0) (pv 2) rfl)
 (ae
 (bH (pv 0) (pv 3) rfl)
 (ae
 (bH (pv 0) (pv 4) rfl)
 (ae
 (bH (pv 0) (pv 5) rfl)
 (ae
 (bH (pv 0) (cz (v:=.str "waiting") rfl T.WAITING ⟨_,rfl⟩) rfl)
 (ak
 (bH (pv 0) eG rfl)))))))),?_⟩
 have fw:∀ n:Nat,n<7→n<1000:=fun n h=>by omega
 refine ⟨_,rfl,_,rfl,q,_,d,_,rfl,hq,T.ck,T.kn,(by show 0<1000;decide),_,rfl,_,rfl,q,_,d,_,rfl,af,T.ck,T.kw,?_,?_⟩
 ·(repeat (first | rw [aQ] | rw [aM (by decide +kernel)] | rw [aS] | rw [aT] | rw [aD (by decide +kernel)]))
  show 1<1000
  decide
 refine ⟨_,rfl,_,rfl,q,_,d,_,rfl,af,T.ck,T.kh,?_,_,rfl,_,rfl,q,_,d,_,rfl,af,T.ck,T.km,?_,_,rfl,_,rfl,q,_,d,_,rfl,af,T.ck,T.kp,?_,_,rfl,q,_,d,_,rfl,af,T.ck,T.ks,?_,_,rfl,q,_,d,_,rfl,af,T.ck,T.ku,?_,?_⟩
 ·(repeat (first | rw [aQ] | rw [aM (by decide +kernel)] | rw [aS] | rw [aT] | rw [aD (by decide +kernel)]))
  show 2<1000
  decide
 ·(repeat (first | rw [aQ] | rw [aM (by decide +kernel)] | rw [aS] | rw [aT] | rw [aD (by decide +kernel)]))
  show 3<1000
  decide
 ·(repeat (first | rw [aQ] | rw [aM (by decide +kernel)] | rw [aS] | rw [aT] | rw [aD (by decide +kernel)]))
  show 4<1000
  decide
 ·(repeat (first | rw [aQ] | rw [aM (by decide +kernel)] | rw [aS] | rw [aT] | rw [aD (by decide +kernel)]))
  show 5<1000
  decide
 ·(repeat (first | rw [aQ] | rw [aM (by decide +kernel)] | rw [aS] | rw [aT] | rw [aD (by decide +kernel)]))
  show 6<1000
  decide
 refine wz ?_ k
 rw [cS,cS,cS,cS,cS,cS]
 congr 2
 (repeat (first | rw [aQ] | rw [aM (by decide +kernel)] | rw [aS] | rw [aT] | rw [aD (by decide +kernel)]))
end
end Kp
namespace Kp
open PySem L2
abbrev zk:Stmt:=top 18
abbrev sSi:Stmt:=inClass (top 21) 0
abbrev zY:Stmt:=inClass (top 21) 1
abbrev sShas:Stmt:=inClass (top 21) 2
abbrev sSin:Stmt:=inClass (top 21) 3
abbrev sSup:Stmt:=inClass (top 21) 4
abbrev sSgo:Stmt:=inClass (top 21) 5
abbrev sSnum:Stmt:=inClass (top 21) 6
abbrev zm:Stmt:=inClass (top 21) 7
theorem dm {X:Cx} {K:Ay} {e:Expr} {f:Str} {pos:Pos} {ta:TE} (hK:X.K=K) (he:PE X e ta) (hb:attributeBase e f X.env (eval e X.env)=eval e X.env) : PE X (.Attribute e f pos) (tFld K ta f):=by
 subst hK
 exact aL he hb
theorem fewS (x:Int) (h r:Addr) : (wG x h r).length<1000:=by show 3<1000;decide
theorem noS {m:Str} {room:Int} {he ro:Addr} (h:m ≠ "room" ∧ m ≠ "here" ∧ m ≠ "row":=by decide +kernel) : (wG room he ro).lookup m=none:=by
 unfold wG
 rw [aD h.1,aD h.2.1,aD h.2.2]
 rfl
theorem noK {m:Str} {i:Nat} {r:Rec} (h:m ≠ "number" ∧ m ≠ "who" ∧ m ≠ "show" ∧ m ≠ "many" ∧ m ≠ "span" ∧ m ≠ "state" ∧ m ≠ "until":=by decide +kernel) : (wu i r).lookup m=none:=by
 unfold wu
 rw [aD h.1,aD h.2.1,aD h.2.2.1,aD h.2.2.2.1,aD h.2.2.2.2.1,aD h.2.2.2.2.2.1,aD h.2.2.2.2.2.2]
 rfl
theorem noY {m:Str} {s l:Addr} {now:Int} (h:m ≠ "shows" ∧ m ≠ "keepings" ∧ m ≠ "now":=by decide +kernel) : (wX s l now).lookup m=none:=by
 unfold wX
 rw [aD h.1,aD h.2.1,aD h.2.2]
 rfl
def zI (K:Ay) : Sp:=fun vs H Q _=>∃ (z:Int) (a:Addr) (ns:List Int),vs=[.int z,.ref a]∧SqL K H a (ns.map V.int)∧Q (.int (wU z ns:Nat)) H
theorem oF {ns:List Int} {i:Nat} {y:V} (h:(ns.map V.int)[i]? = some y) : ∃ z,ns[i]? = some z∧y=V.int z:=by
 rw [Jw] at h
 cases e:ns[i]? with
 | none=>rw [e] at h;cases h
 | some z=>rw [e] at h;exact ⟨z,rfl,(Option.some.inj h).symm⟩
theorem qc {α:Type} {ns:List α} {i:Nat} {z : α} (h:ns[i]? = some z) : ns.drop i=z::ns.drop (i+1):=by
 obtain ⟨hi,e⟩:=Jg.mp h
 rw [← e]
 exact List.drop_eq_getElem_cons hi
section
variable {P:Program} {w:World} {K:Ay} {mg:Str→Option Value} {base:Heap} {T:Cs}
theorem dX:wb ["free","wanted","count","left","want"] ["free","wanted"] (vZ zk):=L2.wy rfl rfl rfl rfl (by decide +kernel)
theorem qe {f:Addr} {fd:FuncData} (F:Fun K "served" "served" zk f fd) : we P w K mg base CX0 1 f fd ["free","wanted"] (zI K):=by
 refine F.ok dX (fun vs H Q E h=>?_) (fun cdv A outer s H vs Q E hr h=>?_)
 ·obtain ⟨z,a,ns,rfl,_⟩:=h
  rfl
 obtain ⟨z,a,ns,rfl,hS,k⟩:=h
 refine ⟨_,    (ae
 (aC (i:=2) dX.nd rfl (Or.inl rfl) ag)
 (ae
 (aC (i:=3) dX.nd rfl (Or.inl rfl) (pv 0))
 (ae
 (bU PassesOwn.never rfl (bC (pv 1)) (aO (i:=4) dX.nd rfl (Or.inl rfl))
 (ae
 (aH (au fW (pv 4) (pv 3) (wa _))
 (ak
       qy)
 aB)
 (ae
 (aC (i:=3) dX.nd rfl (Or.inl rfl) (az cC (pv 3) (pv 4)))
 (ak
 (aC (i:=2) dX.nd rfl (Or.inl rfl) (az bh (pv 2) ag))))))
 (ak
 (aA (pv 2)))))),?_⟩
 refine ⟨_,rfl,?_⟩
 refine ⟨_,rfl,a,rfl,⟨_,hS⟩,bZ (K:=K) (a:=a) (xs:=ns.map V.int) (fun i σ H2=>∃ (c:Nat) (l:Int) (v:Option V),σ=[some (.int z),some (.ref a),some (.int c),some (.int l),v]∧H2=H∧wU z ns=c+wU l (ns.drop i))
  ⟨0,z,none,rfl,rfl,by simp⟩ (fun i σ H2 _ ⟨_,_,_,_,e,_⟩=>by rw [e];exact hS) ?_ ?_⟩
 ·rintro i y σ H2 hi ⟨c,l,v,rfl,rfl,hc⟩
  obtain ⟨x,hx,rfl⟩:=oF hi
  rw [qc hx] at hc
  refine ⟨_,rfl,_,rfl,_,_,rfl,rfl,_,rfl,?_⟩
  refine wx (fun g=>?_) (fun g=>?_)
  ·have g':l<x:=Ji g
   refine ⟨_,rfl,?_⟩
   rw [wU,J3 g',Nat.add_zero] at hc
   have e:(V.int (wU z ns:Nat))=V.int (c:Nat):=by rw [hc]
   rw [e] at k
   exact k
  ·have g':¬ l<x:=fun q=>g (Je q)
   refine ⟨_,rfl,_,rfl,_,_,rfl,rfl,_,rfl,_,_,rfl,rfl,?_⟩
   rw [wU,J0 g'] at hc
   exact ⟨c+1,l-x,_,rfl,rfl,by omega⟩
 ·rintro σ H2 ⟨c,l,v,rfl,rfl,hc⟩
  rw [J9,List.drop_length,wU,Nat.add_zero] at hc
  refine ⟨_,rfl,?_⟩
  rw [hc] at k
  exact k
def Al (T:Cs) : Sp:=fun vs H Q _=>∃ (p d:Addr) (x:Int),vs=[.ref p,.int x]∧H p=some (.ins T.S d [])∧∀ h r,H h=none→H r=none→h≠r→Q .non (upd (upd (upd H h (.lst [])) r (.lst [])) p (.ins T.S d (wG x h r)))
theorem sc_Show___init__:wb ["self","room"] ["self","room"] (vZ sSi):=L2.wy rfl rfl rfl rfl (by decide +kernel)
theorem sQ {f:Addr} {fd:FuncData} (F:Fun K "__init__" "Show.__init__" sSi f fd) (T':Txt K mg T) : we P w K mg base CX0 1 f fd ["self","room"] (Al T):=by
 have T:=T'
 refine F.ok sc_Show___init__ (fun vs H Q E h=>?_) (fun cdv A outer s H vs Q E hr h=>?_)
 ·obtain ⟨p,d,x,rfl,_⟩:=h
  rfl
 obtain ⟨p,d,x,rfl,hp,k⟩:=h
 refine ⟨_,    (ae
 (bH (pv 0) (pv 1) rfl)
 (ae
 (bH (pv 0) (a0 aj) rfl)
 (ak
 (bH (pv 0) (a0 aj) rfl)))),?_⟩
 refine ⟨_,rfl,_,rfl,p,_,d,_,rfl,hp,T.cs,T.sr,(by show 0<1000;decide),(by show 0≤sizeLine;decide),fun h hh=>?_⟩
 have n1:p≠h:=fun z=>by rw [z,af] at hh;cases hh
 have hh0:H h=none:=by rw [ao n1.symm] at hh;exact hh
 refine ⟨_,rfl,p,_,d,_,rfl,(by rw [ao n1];exact af),T.cs,T.sh,?_,(by show 0≤sizeLine;decide),fun r hr=>?_⟩
 ·(repeat (first | rw [aQ] | rw [aM (by decide +kernel)] | rw [aS] | rw [aT] | rw [aD (by decide +kernel)]))
  show 1<1000
  decide
 have n2:p≠r:=fun z=>by rw [z,af] at hr;cases hr
 have n3:h≠r:=fun z=>by rw [z,ao n2.symm,af] at hr;cases hr
 have hr0:H r=none:=by rw [ao n2.symm,ao n3.symm,ao n2.symm] at hr;exact hr
 refine ⟨_,rfl,p,_,d,_,rfl,(by rw [ao n2];exact af),T.cs,T.sw,?_,?_⟩
 ·(repeat (first | rw [aQ] | rw [aM (by decide +kernel)] | rw [aS] | rw [aT] | rw [aD (by decide +kernel)]))
  show 2<1000
  decide
 refine wz ?_ (k h r hh0 hr0 n3)
 funext b
 unfold wG
 (repeat (first | rw [aQ] | rw [aM (by decide +kernel)] | rw [aS] | rw [aT] | rw [aD (by decide +kernel)]))
 by_cases e1:b=p
 ·rw [e1,af,af]
 ·rw [ao e1,ao e1]
  by_cases e2:b=r
  ·rw [e2,af,af]
  ·rw [ao e2,ao e2,ao e1]
   by_cases e3:b=h
   ·rw [e3,af,af]
   ·rw [ao e3,ao e3,ao e1]
def zo (T:Cs) : Sp:=fun vs H Q _=>∃ (y:Addr) (a:YAd) (b:vY) (hr:Nat→List Nat) (j:Nat),vs=[.ref (a.p j)]∧Yd T H y a b hr∧wq b hr∧j<b.rooms.length∧b.all.length≤1000∧∀ H',wm H H'→Q (.int (b.spare j)) H'
theorem fV:wb ["self"] ["self"] (vZ zY):=L2.wy rfl rfl rfl rfl (by decide +kernel)
theorem sR {f:Addr} {fd:FuncData} (F:Fun K "free_places" "Show.free_places" zY f fd) (T':Txt K mg T) (M_Keeping_places_kept:MD P w K mg base CX0 T.K "places_kept" ["self"] 1 (zH T)) : we P w K mg base CX0 2 f fd ["self"] (zo T):=by
 have T:=T'
 refine F.ok fV (fun vs H Q E h=>?_) (fun cdv A outer s H vs Q E hr h=>?_)
 ·obtain ⟨y,a,b,hs,j,rfl,_⟩:=h
  rfl
 obtain ⟨y,a,b,hs,j,rfl,p,O,hj,hl,k⟩:=h
 refine ⟨_,    (ak
 (aA (az cC (aL (pv 0) rfl) (aJ (o9 rfl) rfl T.sum vw (aa (cj ["keeping"] [] [] rfl (bC (aL (pv 0) rfl)) (fun _ _ _ _ _ _=>aO (i:=0) (show List.Nodup ((["keeping"] : List Str)++([] : List Str)) from by decide +kernel) rfl (Or.inl rfl)) (fun _ _ _ _ _ _=>eC) (fun _ _ _ _ _ _=>(eN M_Keeping_places_kept T.ck hr.mn wg (pv 0))) .nil) aj))))),?_⟩
 have hp:=p.shw j hj
 have hh:=p.here j hj
 have hlen:=O.len j
 refine ⟨_,rfl,_,_,_,_,_,rfl,hp,T.cs,T.sr,rQ _ _ _,_,rfl,_,_,_,_,_,rfl,hp,T.cs,T.sh,nG _ _ _,_,rfl,⟨_,SqL.of hh⟩,fun acc hacc=>?_⟩
 have gA:=ai hacc (.lst [])
 refine bT (K:=K) (a:=a.c (2*j+2)) (xs:=rfq a.q (hs j)) (fun i σ H2=>∃ v:Option V,σ=[v]∧wm H H2∧H2 acc=some (.lst (((hs j).take i).map fun n=>V.int (b.at n).takes))) ⟨none,rfl,gA,af⟩ (fun i σ H2 _ ⟨_,_,g,_⟩=>SqL.of (g _ _ hh)) ?_ ?_
 ·rintro i x σ H2 N hN hi ⟨v,rfl,g,e⟩
  obtain ⟨n,hn,rfl⟩:=fj hi
  have hnl:=O.lt j n (List.mem_of_getElem? hn)
  refine ⟨_,rfl,_,_,_,rfl,g _ _ (p.kp n hnl),noK,_,_,_,_,rfl,g _ _ (p.kp n hnl),_,e,big (by rw [J9,Y4];omega),hN _ _ ⟨_,rfl,bx g hacc _,?_⟩⟩
  rw [af,bp hn,Jz]
  rfl
 ·rintro σ H2 ⟨v,rfl,g,e⟩
  rw [bR,Y8] at e
  refine ⟨acc,(hs j).map fun n=>(b.at n).takes,rfl,SqL.of (by rw [e,List.map_map];rfl),_,_,rfl,rfl,?_⟩
  dsimp -proj -iota only
  rw [rS O j]
  exact k H2 g
def spHas (T:Cs) : Sp:=fun vs H Q _=>∃ (y:Addr) (a:YAd) (b:vY) (hr:Nat→List Nat) (j:Nat) (m:Int),vs=[.ref (a.p j),.int m]∧Yd T H y a b hr∧wq b hr∧j<b.rooms.length∧b.all.length≤1000∧(b.rows.getD j []).length≤1000∧∀ H',wm H H'→Q (.bl (decide (b.rows.getD j []=[]) && decide (m≤b.spare j))) H'
theorem fL:wb ["self","many"] ["self","many"] (vZ sShas):=L2.wy rfl rfl rfl rfl (by decide +kernel)
theorem uG {f:Addr} {fd:FuncData} (F:Fun K "has_room_for" "Show.has_room_for" sShas f fd) (T':Txt K mg T) (M_Show_free_places:MD P w K mg base CX0 T.S "free_places" ["self"] 2 (zo T)) : we P w K mg base CX0 3 f fd ["self","many"] (spHas T):=by
 have T:=T'
 refine F.ok fL (fun vs H Q E h=>?_) (fun cdv A outer s H vs Q E hr h=>?_)
 ·obtain ⟨y,a,b,hs,j,m,rfl,_⟩:=h
  rfl
 obtain ⟨y,a,b,hs,j,m,rfl,p,O,hj,hl,hl2,k⟩:=h
 refine ⟨_,    (ak
 (aA (qw (eY bb (aJ aG rfl T.len bF (aa (aL (pv 0) rfl) aj)) ag (wa _)) (qv (eY lZ (pv 1) (eN M_Show_free_places T.cs hr.mn wg (pv 0)) (wa _)))))),?_⟩
 have hp:=p.shw j hj
 have hw:=p.row j hj
 refine ⟨_,rfl,_,_,_,_,_,rfl,hp,T.cs,T.sw,s_row _ _ _,_,_,rfl,.inl (SqL.of hw),rfl,_,rfl,?_⟩
 rw [bR]
 have e0:decide (V.int ((b.rows.getD j []).length:Nat)=V.int 0)=decide (b.rows.getD j []=[]):=by
  rw [decide_eq_decide]
  constructor
  ·intro z
   injection z with z
   exact List.length_eq_zero_iff.mp (by omega)
  ·intro z
   rw [z]
   rfl
 rw [e0]
 refine wx (fun c=>?_) (fun c=>?_)
 ·refine ⟨_,rfl,_,rfl,_,_,_,rfl,hp,noS,y,a,b,hs,j,rfl,p,O,hj,hl,fun H' g=>⟨_,_,rfl,rfl,?_⟩⟩
  have:=k H' g
  rw [c,Bool.true_and] at this
  exact this
 ·have:=k H (fun _ _ z=>z)
  rw [Bool.eq_false_iff.mpr c,Bool.false_and] at this
  exact this
def zJ (T:Cs) (up:Bool) : Sp:=fun vs H Q _=>∃ (p d h r:Addr) (x:Int) (v:V) (xs:List V),vs=[.ref p,v]∧H p=some (.ins T.S d (wG x h r))∧H (if up=true then r else h)=some (.lst xs)∧xs.length≤1000∧Q .non (upd H (if up=true then r else h) (.lst (xs++[v])))
theorem jD:wb ["self","keeping"] ["self","keeping"] (vZ sSin):=L2.wy rfl rfl rfl rfl (by decide +kernel)
theorem vL {f:Addr} {fd:FuncData} (F:Fun K "let_in" "Show.let_in" sSin f fd) (T':Txt K mg T) : we P w K mg base CX0 1 f fd ["self","keeping"] (zJ T false):=by
 have T:=T'
 refine F.ok jD (fun vs H Q E h=>?_) (fun cdv A outer s H vs Q E hr h=>?_)
 ·obtain ⟨p,d,h,r,x,v,xs,rfl,_⟩:=h
  rfl
 obtain ⟨p,d,h,r,x,v,xs,rfl,hp,hh,hl,k⟩:=h
 refine ⟨_,    (ak
 (aF (bP Jl Jq Jr aX (aL (pv 0) rfl) (aa (pv 1) aj)))),?_⟩
 exact ⟨_,rfl,p,_,d,_,_,rfl,hp,T.cs,T.sh,nG _ _ _,.inl ⟨rfl,_,SqL.of hh⟩,_,rfl,h,_,_,rfl,rfl,hh,big (by omega),k⟩
theorem i0:wb ["self","keeping"] ["self","keeping"] (vZ sSup):=L2.wy rfl rfl rfl rfl (by decide +kernel)
theorem vM {f:Addr} {fd:FuncData} (F:Fun K "line_up" "Show.line_up" sSup f fd) (T':Txt K mg T) : we P w K mg base CX0 1 f fd ["self","keeping"] (zJ T true):=by
 have T:=T'
 refine F.ok i0 (fun vs H Q E h=>?_) (fun cdv A outer s H vs Q E hr h=>?_)
 ·obtain ⟨p,d,h,r,x,v,xs,rfl,_⟩:=h
  rfl
 obtain ⟨p,d,h,r,x,v,xs,rfl,hp,hh,hl,k⟩:=h
 refine ⟨_,    (ak
 (aF (bP Jl Jq Jr aX (aL (pv 0) rfl) (aa (pv 1) aj)))),?_⟩
 exact ⟨_,rfl,p,_,d,_,_,rfl,hp,T.cs,T.sw,s_row _ _ _,.inl ⟨rfl,_,SqL.of hh⟩,_,rfl,r,_,_,rfl,rfl,hh,big (by omega),k⟩
def spGo (T:Cs) : Sp:=fun vs H Q _=>∃ (y:Addr) (a:YAd) (b:vY) (hr:Nat→List Nat) (j i:Nat),vs=[.ref (a.p j),.ref (a.q i)]∧Yd T H y a b hr∧j<b.rooms.length∧i<b.all.length∧(∀ k∈hr j,k<b.all.length)∧(∀ k∈b.rows.getD j [],k<b.all.length) ∧
 if (b.at i).st=.waiting then i∈b.rows.getD j []∧Q .non (upd H (a.c (2*j+3)) (.lst (rfq a.q ((b.rows.getD j []).erase i)))) else i∈hr j∧Q .non (upd H (a.c (2*j+2)) (.lst (rfq a.q ((hr j).erase i))))
theorem iK {q:Nat→Addr} {i:Nat} : ∀ {is:List Nat},(∀ k∈is,q k=q i→k=i)→(is.map q).erase (q i)=(is.erase i).map q
 | [],_=>rfl
 | k::is,h=>by
  rw [List.map_cons]
  by_cases e:k=i
  ·subst e
   rw [List.erase_cons_head,List.erase_cons_head]
  ·rw [List.erase_cons_tail (by simpa using fun z=>e (h k Jb z)),List.erase_cons_tail (by simpa using e),List.map_cons,iK fun m hm=>h m (Jd _ hm)]
theorem jd (q:Nat→Addr) (is:List Nat) : rfq q is=(is.map q).map V.ref:=by unfold rfq;rw [List.map_map];rfl
theorem jE:wb ["self","keeping"] ["self","keeping"] (vZ sSgo):=L2.wy rfl rfl rfl rfl (by decide +kernel)
theorem vN {f:Addr} {fd:FuncData} (F:Fun K "let_go" "Show.let_go" sSgo f fd) (T':Txt K mg T) : we P w K mg base CX0 1 f fd ["self","keeping"] (spGo T):=by
 have T:=T'
 refine F.ok jE (fun vs H Q E h=>?_) (fun cdv A outer s H vs Q E hr h=>?_)
 ·obtain ⟨y,a,b,hs,j,i,rfl,_⟩:=h
  rfl
 obtain ⟨y,a,b,hs,j,i,rfl,p,hj,hi,h1,h2,k⟩:=h
 refine ⟨_,    (ak
 (aH (au bb (aL (pv 1) rfl) (cz (v:=.str "waiting") rfl T.WAITING ⟨_,rfl⟩) (wa _))
 (ak
 (aF (bP Jl PySem.F.slot_list_remove PySem.F.type_list_remove (jz T.eqK hr.units) (aL (pv 0) rfl) (aa (pv 1) aj))))
 (ak
 (aF (bP Jl PySem.F.slot_list_remove PySem.F.type_list_remove (jz T.eqK hr.units) (aL (pv 0) rfl) (aa (pv 1) aj)))))),?_⟩
 have hp:=p.shw j hj
 have hq:=p.kp i hi
 refine ⟨_,rfl,_,_,_,_,_,rfl,hq,T.ck,T.ks,cL _ _,rfl,_,rfl,?_⟩
 rw [show decide (V.str (b.at i).st.txt=V.str "waiting")=decide ((b.at i).st=.waiting) from jb _]
 refine wx (fun c=>?_) (fun c=>?_)
 ·rw [J3 (Ji c)] at k
  have hw:=p.row j hj
  rw [jd] at hw
  refine ⟨_,rfl,_,_,_,_,_,rfl,hp,T.cs,T.sw,s_row _ _ _,.inl ⟨rfl,_,SqL.of hw⟩,_,rfl,_,_,_,rfl,rfl,hw,Yj.mpr ⟨i,k.1,rfl⟩,fun z m=>?_,?_⟩
  ·obtain ⟨n,mn,rfl⟩:=Yj.mp m
   exact ⟨_,_,p.kp n (h2 n mn)⟩
  ·rw [iK fun n mn z=>p.qinj (h2 n mn) hi z,← jd]
   exact k.2
 ·rw [J0 fun z=>c (Je z)] at k
  have hw:=p.here j hj
  rw [jd] at hw
  refine ⟨_,rfl,_,_,_,_,_,rfl,hp,T.cs,T.sh,nG _ _ _,.inl ⟨rfl,_,SqL.of hw⟩,_,rfl,_,_,_,rfl,rfl,hw,Yj.mpr ⟨i,k.1,rfl⟩,fun z m=>?_,?_⟩
  ·obtain ⟨n,mn,rfl⟩:=Yj.mp m
   exact ⟨_,_,p.kp n (h1 n mn)⟩
  ·rw [iK fun n mn z=>p.qinj (h1 n mn) hi z,← jd]
   exact k.2
def spNum (T:Cs) : Sp:=fun vs H Q _=>∃ (y:Addr) (a:YAd) (b:vY) (hr:Nat→List Nat) (j:Nat),vs=[.ref (a.p j)]∧Yd T H y a b hr∧j<b.rooms.length∧(∀ n∈b.rows.getD j [],n<b.all.length)∧(b.rows.getD j []).length≤1000∧∀ H' l,wm H H'→H l=none→H' l=some (.lst ((b.rows.getD j []).map nv))→Q (.ref l) H'
theorem eV:wb ["self"] ["self"] (vZ sSnum):=L2.wy rfl rfl rfl rfl (by decide +kernel)
theorem uH {f:Addr} {fd:FuncData} (F:Fun K "numbers_waiting" "Show.numbers_waiting" sSnum f fd) (T':Txt K mg T) : we P w K mg base CX0 1 f fd ["self"] (spNum T):=by
 have T:=T'
 refine F.ok eV (fun vs H Q E h=>?_) (fun cdv A outer s H vs Q E hr h=>?_)
 ·obtain ⟨y,a,b,hs,j,rfl,_⟩:=h
  rfl
 obtain ⟨y,a,b,hs,j,rfl,p,hj,hl,h1,k⟩:=h
 refine ⟨_,    (ak
 (aA (cj ["keeping"] [] [] rfl (bC (aL (pv 0) rfl)) (fun _ _ _ _ _ _=>aO (i:=0) (show List.Nodup ((["keeping"] : List Str)++([] : List Str)) from by decide +kernel) rfl (Or.inl rfl)) (fun _ _ _ _ _ _=>eC) (fun _ _ _ _ _ _=>by exact (dm (K:=K) rfl (pv 0) rfl)) .nil))),?_⟩
 have hp:=p.shw j hj
 have hw:=p.row j hj
 refine ⟨_,rfl,_,_,_,_,_,rfl,hp,T.cs,T.sw,s_row _ _ _,_,rfl,⟨_,SqL.of hw⟩,fun acc hacc=>?_⟩
 have gA:=ai hacc (.lst [])
 refine bT (K:=K) (a:=a.c (2*j+3)) (xs:=rfq a.q (b.rows.getD j [])) (fun i σ H2=>∃ v:Option V,σ=[v]∧wm H H2∧H2 acc=some (.lst (((b.rows.getD j []).take i).map nv))) ⟨none,rfl,gA,af⟩ (fun i σ H2 _ ⟨_,_,g,_⟩=>SqL.of (g _ _ hw)) ?_ ?_
 ·rintro i x σ H2 N hN hi ⟨v,rfl,g,e⟩
  obtain ⟨n,hn,rfl⟩:=fj hi
  have hnl:=hl n (List.mem_of_getElem? hn)
  refine ⟨_,rfl,_,_,_,_,_,rfl,g _ _ (p.kp n hnl),T.ck,T.kn,eU _ _,_,e,big (by rw [J9,Y4];omega),hN _ _ ⟨_,rfl,bx g hacc _,?_⟩⟩
  rw [af,bp hn,Jz]
  rfl
 ·rintro σ H2 ⟨v,rfl,g,e⟩
  rw [bR,Y8] at e
  exact k H2 acc g hacc e
end
end Kp
namespace Kp
open PySem L2
theorem sS (xs:List V) (c:Nat) : ym xs none (some ((c:Nat) : Int))=xs.take c:=by
 unfold ym
 rw [HT.i6]
 show (xs.drop 0).take (min c xs.length-0)=_
 rw [List.drop_zero,Nat.sub_zero]
 by_cases h:c≤xs.length
 ·rw [Nat.min_eq_left h]
 ·rw [Nat.min_eq_right (by omega),List.take_of_length_le (Jm _),List.take_of_length_le (by omega)]
theorem sU (xs:List V) (c:Nat) : ym xs (some ((c:Nat) : Int)) none=xs.drop c:=by
 unfold ym
 rw [HT.i6]
 show (xs.drop (min c xs.length)).take (xs.length-min c xs.length)=_
 by_cases h:c≤xs.length
 ·rw [Nat.min_eq_left h,List.take_of_length_le (by rw [List.length_drop];exact Jm _)]
 ·rw [Nat.min_eq_right (by omega),List.drop_of_length_le (Jm _),List.drop_of_length_le (by omega),List.take_nil]
theorem sV (q:Nat→Addr) (is:List Nat) (c:Nat) : (rfq q is).take c=rfq q (is.take c):=by unfold rfq;rw [List.map_take]
theorem sW (q:Nat→Addr) (is:List Nat) (c:Nat) : (rfq q is).drop c=rfq q (is.drop c):=by unfold rfq;rw [List.map_drop]
theorem jF (q:Nat→Addr) (is:List Nat) (i:Nat) : rfq q is++[.ref (q i)]=rfq q (is++[i]):=by unfold rfq;rw [Jz];rfl
def xp (T:Cs) : Sp:=fun vs H Q _=>∃ (y:Addr) (a:YAd) (b:vY) (hr:Nat→List Nat) (j:Nat),vs=[.ref (a.p j),.int b.now]∧Yd T H y a b hr∧b.Ok∧wq b hr∧j<b.rooms.length∧b.all.length≤600 ∧
 ∀ (H':Hp) (a':YAd) (hr':Nat→List Nat) (l:Addr),wk T H y a b H' a' (b.serve j).1 hr'→wq (b.serve j).1 hr'→a'.p=a.p→a'.q=a.q→H l=none→l∉wF y a' (b.serve j).1.rooms.length (b.serve j).1.all.length→H' l=some (.lst ((b.serve j).2.map nv))→Q (.ref l) H'
section
variable {P:Program} {w:World} {K:Ay} {mg:Str→Option Value} {base:Heap} {Z:Cs}
theorem du:wb ["self","now","count","first","keeping"] ["self","now"] (vZ zm):=L2.wy rfl rfl rfl rfl (by decide +kernel)
theorem qf {f:Addr} {fd:FuncData} (F:Fun K "serve" "Show.serve" zm f fd) (T':Txt K mg Z) (F_served:FD P w K mg base CX0 "served" ["free","wanted"] 1 (zI K)) (M_Show_free_places:MD P w K mg base CX0 Z.S "free_places" ["self"] 2 (zo Z))
  (M_Keeping_hold:MD P w K mg base CX0 Z.K "hold" ["self","now"] 1 (ye Z 1 gHold)) (M_Show_let_in:MD P w K mg base CX0 Z.S "let_in" ["self","keeping"] 1 (zJ Z false)) : we P w K mg base CX0 3 f fd ["self","now"] (xp Z):=by
 have T:=T'
 refine F.ok du (fun vs H Q E h=>?_) (fun cdv A outer s H vs Q E hr h=>?_)
 ·obtain ⟨y,a,b,hs,j,rfl,_⟩:=h
  rfl
 obtain ⟨y,a,b,hs,j,rfl,p,Ob,O,hj,hl,k⟩:=h
 refine ⟨_,    (ae
 (aC (i:=2) du.nd rfl (Or.inl rfl) (h9 F_served hr.mn rfl wg (aa (eN M_Show_free_places T.cs hr.mn wg (pv 0)) (aa (cj ["keeping"] [] [] rfl (bC (aL (pv 0) rfl)) (fun _ _ _ _ _ _=>aO (i:=0) (show List.Nodup ((["keeping"] : List Str)++([] : List Str)) from by decide +kernel) rfl (Or.inl rfl)) (fun _ _ _ _ _ _=>eC) (fun _ _ _ _ _ _=>by exact (dm (K:=K) rfl (pv 0) rfl)) .nil) aj))))
 (ae
 (aC (i:=3) du.nd rfl (Or.inl rfl) (jl kW (aL (pv 0) rfl) oj (i7 (pv 2))))
 (ae
 (bH (pv 0) (jl kW (aL (pv 0) rfl) (i7 (pv 2)) oj) rfl)
 (ae
 (bU PassesOwn.never rfl (bC (pv 3)) (aO (i:=4) du.nd rfl (Or.inl rfl))
 (ae
 (aF (bz M_Keeping_hold T.ck hr.mn wg (pv 4) (aa (pv 1) aj)))
 (ak
 (aF (bz M_Show_let_in T.cs hr.mn wg (pv 0) (aa (pv 4) aj))))))
 (ak
 (aA (cj ["keeping"] [] [] rfl (bC (pv 3)) (fun _ _ _ _ _ _=>aO (i:=0) (show List.Nodup ((["keeping"] : List Str)++([] : List Str)) from by decide +kernel) rfl (Or.inl rfl)) (fun _ _ _ _ _ _=>eC) (fun _ _ _ _ _ _=>by exact (dm (K:=K) rfl (pv 0) rfl)) .nil))))))),?_⟩
 have hp:=p.shw j hj
 have hw:=p.row j hj
 have hrl:=Ob.len j
 have hrow:∀ n∈b.rows.getD j [],n<b.all.length:=fun n m=>(Ob.row j n m).1
 refine ⟨_,rfl,_,_,_,rfl,hp,noS,y,a,b,hs,j,rfl,p,O,hj,by omega,fun H1 g1=>?_⟩
 refine ⟨_,rfl,_,_,_,_,_,rfl,g1 _ _ hp,T.cs,T.sw,s_row _ _ _,_,rfl,⟨_,SqL.of (g1 _ _ hw)⟩,fun acc hacc=>?_⟩
 have gA:=ai hacc (.lst [])
 refine bT (K:=K) (a:=a.c (2*j+3)) (xs:=rfq a.q (b.rows.getD j [])) (fun i σ H2=>∃ v:Option V,σ=[v]∧wm H1 H2∧H2 acc=some (.lst (((b.rows.getD j []).take i).map fun n=>V.int (b.at n).many))) ⟨none,rfl,gA,af⟩ (fun i σ H2 _ ⟨_,_,g,_⟩=>SqL.of (g _ _ (g1 _ _ hw))) ?_ ?_
 ·rintro i x σ H2 N hN hi ⟨v,rfl,g,e⟩
  obtain ⟨n,hn,rfl⟩:=fj hi
  have hnl:=hrow n (List.mem_of_getElem? hn)
  refine ⟨_,rfl,_,_,_,_,_,rfl,g _ _ (g1 _ _ (p.kp n hnl)),T.ck,T.km,fH _ _,_,e,big (by rw [J9,Y4];omega),hN _ _ ⟨_,rfl,bx g hacc _,?_⟩⟩
  rw [af,bp hn,Jz]
  rfl
 rintro σ H2 ⟨v,rfl,g2,e2⟩
 rw [bR,Y8] at e2
 have g02:wm H H2:=g1.trans g2
 refine ⟨b.spare j,acc,(b.rows.getD j []).map fun n=>(b.at n).many,rfl,SqL.of (by rw [e2,List.map_map];rfl),?_⟩
 have ec:wU (b.spare j) ((b.rows.getD j []).map fun n=>(b.at n).many)=b.count j:=rfl
 rw [ec]
 refine ⟨_,rfl,_,_,_,_,_,rfl,g02 _ _ hp,T.cs,T.sw,s_row _ _ _,_,rfl,_,rfl,_,_,rfl,SqL.of (g02 _ _ hw),fun fl hfl=>?_⟩
 rw [sS,sV]
 have g3:=ai hfl (.lst (rfq a.q ((b.rows.getD j []).take (b.count j))))
 have e3:(upd H2 fl (.lst (rfq a.q ((b.rows.getD j []).take (b.count j))))) fl=some (.lst (rfq a.q ((b.rows.getD j []).take (b.count j)))):=af
 have hfl0:H fl=none:=g02.free hfl
 generalize upd H2 fl (.lst (rfq a.q ((b.rows.getD j []).take (b.count j))))=H3 at g3 e3
 have g03:wm H H3:=g02.trans g3
 refine ⟨_,rfl,_,_,_,_,_,rfl,g03 _ _ hp,T.cs,T.sw,s_row _ _ _,_,rfl,_,rfl,_,_,rfl,SqL.of (g03 _ _ hw),fun z hz=>?_⟩
 rw [sU,sW]
 have g4:=ai hz (.lst (rfq a.q ((b.rows.getD j []).drop (b.count j))))
 have e4:(upd H3 z (.lst (rfq a.q ((b.rows.getD j []).drop (b.count j))))) z=some (.lst (rfq a.q ((b.rows.getD j []).drop (b.count j)))):=af
 have hz0:H z=none:=g03.free hz
 have nfz:fl≠z:=aE e3 hz
 generalize upd H3 z (.lst (rfq a.q ((b.rows.getD j []).drop (b.count j))))=H4 at g4 e4
 have g04:wm H H4:=g03.trans g4
 have f4:=g4 _ _ e3
 have A4:=(wk.refl p).same g04
 have nz4:=p.nlst hz0
 have nf:=p.nlst hfl0
 have A5:=A4.newR hj ((b.rows.getD j []).drop (b.count j)) e4 nz4 hz0
 have npf:fl≠a.p j:=fun e=>by rw [e,hp] at hfl0;cases hfl0
 refine ⟨_,rfl,_,_,_,_,rfl,g04 _ _ hp,T.cs,T.sw,fewS _ _ _,?_⟩
 refine wz (H':=upd H4 (a.p j) (.ins Z.S (a.pd j) (wG (b.rooms.getD j 0) (a.c (2*j+2)) z))) (congrArg (fun l=>upd H4 (a.p j) (HO.ins Z.S (a.pd j) l)) (p_row _ _ _ _)) ?_
 have f5:(upd H4 (a.p j) (.ins Z.S (a.pd j) (wG (b.rooms.getD j 0) (a.c (2*j+2)) z))) fl=some (.lst (rfq a.q ((b.rows.getD j []).take (b.count j)))):=(ao npf).trans f4
 generalize upd H4 (a.p j) (.ins Z.S (a.pd j) (wG (b.rooms.getD j 0) (a.c (2*j+2)) z))=H5 at A5 f5
 have O5:=O.rows (b.rows.set j ((b.rows.getD j []).drop (b.count j)))
 have fnd:((b.rows.getD j []).take (b.count j)).Nodup:=(Ob.nd j).sublist (List.take_sublist _ _)
 have fmem:∀ n∈(b.rows.getD j []).take (b.count j),n<b.all.length∧(b.at n).st=.waiting∧(b.at n).shw=j:=fun n m=>Ob.row j n (List.mem_of_mem_take m)
 have flen:((b.rows.getD j []).take (b.count j)).length≤600:=by rw [Y4];omega
 have es:=rW Ob j
 generalize (b.rows.getD j []).take (b.count j)=fs at fnd fmem flen f5 es
 generalize b.rows.set j ((b.rows.getD j []).drop (b.count j))=rws at A5 O5 es
 generalize hca:({ a with c:=fun i=>if i=2*j+3 then z else a.c i } : YAd)=a5 at A5
 have ap:a5.p=a.p:=by rw [← hca]
 have aq:a5.q=a.q:=by rw [← hca]
 have ah:a5.c (2*j+2)≠fl:=by rw [← hca];show (if 2*j+2=2*j+3 then z else a.c (2*j+2))≠fl;rw [J0 (by omega)];exact nf _ (by omega)
 refine ⟨_,rfl,fl,rfl,⟨_,SqL.of f5⟩,bZ (K:=K) (a:=fl) (xs:=rfq a.q fs) (fun i σ H6=>∃ (v:Option V) (hs6:Nat→List Nat),σ=[some (.ref (a.p j)),some (.int b.now),some (.int (b.count j:Nat)),some (.ref fl),v]∧wk Z H y a b H6 a5 { b.holds (fs.take i) with rows:=rws } hs6∧wq { b.holds (fs.take i) with rows:=rws } hs6∧H6 fl=some (.lst (rfq a.q fs)))
  ⟨none,hs,rfl,A5,O5,f5⟩ (fun i σ H6 _ ⟨_,_,_,_,_,e⟩=>SqL.of e) ?_ ?_⟩
 ·rintro i x σ H6 hi ⟨v,hs6,rfl,A6,O6,f6⟩
  obtain ⟨n,hn,rfl⟩:=fj hi
  obtain ⟨n1,n2,n3⟩:=fmem n (List.mem_of_getElem? hn)
  have nin:n∉fs.take i:=fun m=>by
   obtain ⟨m1,hm1,em⟩:=List.mem_iff_getElem.mp m
   rw [List.getElem_take] at em
   have hm2:m1<i:=by rw [Y4] at hm1;omega
   have:=q0 fnd (i:=m1) (j:=i) (x:=n) (by rw [← em];exact Ja _) hn
   omega
  have tl:∀ q∈fs.take i,q<b.all.length:=fun q m=>(fmem q (List.mem_of_mem_take m)).1
  have n1':n<({ b.holds (fs.take i) with rows:=rws } : vY).all.length:=by show n<(b.holds (fs.take i)).all.length;rw [fU];exact n1
  have ea:vY.at { b.holds (fs.take i) with rows:=rws } n=b.at n:=kG (fs.take i) b n nin tl
  have hk:=A6.pic.kp n n1'
  rw [ea,aq] at hk
  have A7:=A6.zD n1' ((b.at n).hold b.now)
  rw [aq] at A7
  have O7:=O6.hold (j:=j) n1' (by rw [ea];exact n2) (by rw [ea];exact n3)
  have eh:vY.hold { b.holds (fs.take i) with rows:=rws } n={ b.holds (fs.take (i+1)) with rows:=rws }:=by
   rw [bp hn,nH,rV]
  have eh2:({ ({ b.holds (fs.take i) with rows:=rws } : vY) with all:=(b.holds (fs.take i)).all.set n ((b.at n).hold b.now) } : vY)={ b.holds (fs.take (i+1)) with rows:=rws }:=by
   rw [← eh]
   unfold vY.hold
   rw [ea]
   show _={ ({ b.holds (fs.take i) with rows:=rws } : vY) with all:=(b.holds (fs.take i)).all.set n ((b.at n).hold (b.holds (fs.take i)).now) }
   rw [kF]
  rw [eh] at O7
  rw [show ({ ({ b.holds (fs.take i) with rows:=rws } : vY) with all:=({ b.holds (fs.take i) with rows:=rws } : vY).all.set n ((b.at n).hold b.now) } : vY)={ b.holds (fs.take (i+1)) with rows:=rws } from eh2] at A7
  refine ⟨_,rfl,_,_,_,rfl,hk,noK,_,rfl,_,_,n,b.at n,_,[.int b.now],rfl,rfl,hk,⟨b.now,rfl,rfl⟩,?_⟩
  have fq:fl≠a.q n:=fun e=>by rw [e,hk] at f6;cases f6
  have f7:(upd H6 (a.q n) (.ins Z.K (a5.qd n) (wu n ((b.at n).hold b.now)))) fl=some (.lst (rfq a.q fs)):=(ao fq).trans f6
  generalize upd H6 (a.q n) (.ins Z.K (a5.qd n) (wu n ((b.at n).hold b.now)))=H7 at A7 f7
  have hj7:j<({ b.holds (fs.take (i+1)) with rows:=rws } : vY).rooms.length:=by show j<(b.holds (fs.take (i+1))).rooms.length;rw [iS];exact hj
  have hp7:=A7.pic.shw j hj7
  have hh7:=A7.pic.here j hj7
  rw [ap] at hp7
  have A8:=A7.Av hj7 (hs6 j++[n])
  have hl6:(hs6 j).length≤600:=by
   have:=O6.len j
   rw [show ({ b.holds (fs.take i) with rows:=rws } : vY).all.length=b.all.length from fU _ _] at this
   omega
  refine ⟨_,rfl,_,_,_,rfl,hp7,noS,_,rfl,_,_,_,_,_,_,_,rfl,hp7,hh7,(by rw [bR];omega),?_⟩
  refine ⟨_,(fun k=>if k=j then hs6 j++[n] else hs6 k),rfl,?_,O7,?_⟩
  ·rw [show (if false=true then a5.c (2*j+3) else a5.c (2*j+2))=a5.c (2*j+2) from rfl,← aq,jF]
   exact A8
  ·rw [show (if false=true then a5.c (2*j+3) else a5.c (2*j+2))=a5.c (2*j+2) from rfl,ao (Ne.symm ah)]
   exact f7
 ·rintro σ H6 ⟨v,hs6,rfl,A6,O6,f6⟩
  rw [bR,Y8] at A6 O6
  refine ⟨_,rfl,fl,rfl,⟨_,SqL.of f6⟩,fun l hl6=>?_⟩
  have gL:=ai hl6 (.lst [])
  refine bT (K:=K) (a:=fl) (xs:=rfq a.q fs) (fun i σ H7=>∃ v:Option V,σ=[v]∧wm H6 H7∧H7 l=some (.lst ((fs.take i).map nv))) ⟨none,rfl,gL,af⟩ (fun i σ H7 _ ⟨_,_,g,_⟩=>SqL.of (g _ _ f6)) ?_ ?_
  ·rintro i x σ H7 N hN hi ⟨v,rfl,g,e⟩
   obtain ⟨n,hn,rfl⟩:=fj hi
   have n1':n<({ b.holds fs with rows:=rws } : vY).all.length:=by show n<(b.holds fs).all.length;rw [fU];exact (fmem n (List.mem_of_getElem? hn)).1
   have hk:=A6.pic.kp n n1'
   rw [aq] at hk
   refine ⟨_,rfl,_,_,_,_,_,rfl,g _ _ hk,T.ck,T.kn,eU _ _,_,e,big (by rw [J9,Y4];omega),hN _ _ ⟨_,rfl,bx g hl6 _,?_⟩⟩
   rw [af,bp hn,Jz]
   rfl
  ·rintro σ H7 ⟨v,rfl,g,e⟩
   rw [bR,Y8] at e
   rw [es] at k
   exact k H7 a5 hs6 l (A6.same g) O6 ap aq (A6.back hl6) (A6.pic.new hl6) e
end
end Kp
namespace Kp
open PySem L2
abbrev sYi:Stmt:=inClass (top 23) 0
abbrev sYfs:Stmt:=inClass (top 23) 1
abbrev sYfa:Stmt:=inClass (top 23) 2
abbrev sYfk:Stmt:=inClass (top 23) 3
abbrev zZ:Stmt:=inClass (top 23) 4
abbrev z4:Stmt:=inClass (top 23) 5
abbrev z6:Stmt:=inClass (top 23) 6
abbrev sYend:Stmt:=inClass (top 23) 7
abbrev z7:Stmt:=inClass (top 23) 8
abbrev z8:Stmt:=inClass (top 23) 9
abbrev z9:Stmt:=inClass (top 23) 10
abbrev zq:Stmt:=inClass (top 23) 11
abbrev Aa:Stmt:=inClass (top 23) 12
abbrev zr:Stmt:=inClass (top 23) 13
abbrev Ab:Stmt:=inClass (top 23) 14
abbrev sYrow:Stmt:=inClass (top 23) 15
abbrev yv:Stmt:=inClass (top 23) 16
structure Yok (Z:Cs) (H:Hp) (y:Addr) (a:YAd) (b:vY) (hr:Nat→List Nat) : Prop where
 pic:Yd Z H y a b hr
 ok:b.Ok
 here:wq b hr
 len:b.all.length≤500
theorem eW {q:Nat→Addr} {n i:Nat} (h:i<n) : atI (rfq q (List.range n)) ((i:Nat) : Int)=some (.ref (q i)):=cU (vI (by rw [List.getElem?_range h]))
def xk (Z:Cs) : Sp:=fun vs H Q E=>∃ (y:Addr) (a:YAd) (b:vY) (hr:Nat→List Nat) (t:Int),vs=[.ref y,.int t]∧Yd Z H y a b hr∧(b.wo t=true→Q (.ref (a.p t.toNat)) H)∧(b.wo t=false→yE H "no show" E)
def xG (Z:Cs) : Sp:=fun vs H Q E=>∃ (y:Addr) (a:YAd) (b:vY) (hr:Nat→List Nat) (t:Int),vs=[.ref y,.int t]∧Yd Z H y a b hr∧(b.wZ t=true→Q (.ref (a.q t.toNat)) H)∧(b.wZ t=false→yE H "no keeping" E)
def xH (Z:Cs) : Sp:=fun vs H Q E=>∃ (y:Addr) (a:YAd) (b:vY) (hr:Nat→List Nat) (t:Int),vs=[.ref y,.int t]∧Yd Z H y a b hr∧(b.live t=true→Q (.ref (a.q t.toNat)) H)∧(b.live t=false→yE H "no keeping" E)
def spEnd (Z:Cs) : Sp:=fun vs H Q _=>∃ (y:Addr) (a:YAd) (b:vY) (hr:Nat→List Nat) (n:Nat),vs=[.ref y,.ref (a.q n)]∧Yok Z H y a b hr∧n<b.all.length∧(b.at n).st≠.gone ∧
 ∀ (H':Hp) (a':YAd) (hr':Nat→List Nat) (l:Addr),wk Z H y a b H' a' (b.leave n).1 hr'→wq (b.leave n).1 hr'→a'.p=a.p→a'.q=a.q→H l=none→l∉wF y a' (b.leave n).1.rooms.length (b.leave n).1.all.length→H' l=some (.lst ((b.leave n).2.map nv))→Q (.ref l) H'
def wI (Z:Cs) (g:List V→wd→Prop) (n:Nat) : Sp:=fun vs H Q E=>∃ (y:Addr) (a:YAd) (b:vY) (hr:Nat→List Nat) (xs:List V) (dd:wd),vs=.ref y::xs∧xs.length=n∧g xs dd∧Yok Z H y a b hr∧yj Z H y a b (b.done dd) Q E
theorem wI.len {Z:Cs} {g:List V→wd→Prop} {n:Nat} {vs:List V} {H:Hp} {Q:VK} {E:XK} (h:wI Z g n vs H Q E) : vs.length=n+1:=by
 obtain ⟨y,a,b,hr,xs,dd,rfl,e,_⟩:=h
 rw [Jy,e]
abbrev dKeep:List V→wd→Prop:=fun xs dd=>∃ w s m p,xs=[.str w,.int s,.int m,.int p]∧dd=.keep w s m p
abbrev dTake:List V→wd→Prop:=fun xs dd=>∃ n,xs=[.int n]∧dd=.take n
abbrev dBack:List V→wd→Prop:=fun xs dd=>∃ n,xs=[.int n]∧dd=.back n
abbrev dPart:List V→wd→Prop:=fun xs dd=>∃ n m,xs=[.int n,.int m]∧dd=.part n m
abbrev dMove:List V→wd→Prop:=fun xs dd=>∃ n s,xs=[.int n,.int s]∧dd=.move n s
abbrev dPass:List V→wd→Prop:=fun xs dd=>∃ n w,xs=[.int n,.str w]∧dd=.pass n w
abbrev dClock:List V→wd→Prop:=fun xs dd=>∃ t,xs=[.int t]∧dd=.clock t
abbrev dFree:List V→wd→Prop:=fun xs dd=>∃ t,xs=[.int t]∧dd=.free t
abbrev dRow:List V→wd→Prop:=fun xs dd=>∃ t,xs=[.int t]∧dd=.row t
abbrev dState:List V→wd→Prop:=fun xs dd=>∃ t,xs=[.int t]∧dd=.state t
section
variable {P:Program} {w:World} {K:Ay} {mg:Str→Option Value} {base:Heap} {Z:Cs} {R:Addr}
theorem ir:wb ["self","show"] ["self","show"] (vZ sYfs):=L2.wy rfl rfl rfl rfl (by decide +kernel)
theorem vO {f:Addr} {fd:FuncData} (F:Fun K "find_show" "Yard.find_show" sYfs f fd) (T':Txt K mg Z) (X_NoShow:XD P w K mg base R "NoShow" "no show" 2) : we P w K mg base (CXX P w K R) 4 f fd ["self","show"] (xk Z):=by
 have T:=T'
 refine okX F ir (fun vs H Q E h=>?_) (fun cdv A outer s H vs Q E hr h=>?_)
 ·obtain ⟨y,a,b,hs,t,rfl,_⟩:=h
  rfl
 obtain ⟨y,a,b,hs,t,rfl,p,k1,k2⟩:=h
 refine ⟨_,    (ae
 (aH (PW.pt (dJ (au cP (pv 1) ag (wa _)) (cM (au gH (pv 1) (aJ aG rfl T.len bF (aa (aL (pv 0) rfl) aj)) (wa _)))))
 (ak
 (eS X_NoShow hr.mn rfl rfl wC))
 aB)
 (ak
 (aA (ax av (aL (pv 0) rfl) (pv 1) (fun _ _=>rfl))))),?_⟩
 refine ⟨_,rfl,_,_,rfl,rfl,_,rfl,?_⟩
 have no:¬ b.wo t=true→yE H "no show" E:=fun c=>k2 (Bool.eq_false_iff.mpr c)
 refine wx (fun c=>?_) (fun c=>?_)
 ·exact xq (no fun z=>by have:=Ji c;have:=(bj.mp z).1;omega)
 refine ⟨_,rfl,_,rfl,y,_,_,_,_,rfl,p.yard,T.cy,T.yh,ic _ _ _,_,_,rfl,.inl (SqL.of p.shows),_,_,rfl,rfl,_,rfl,?_⟩
 rw [bR,Yh]
 have c':¬ t<0:=fun z=>c (Je z)
 refine wx (fun c2=>?_) (fun c2=>?_)
 ·exact no fun z=>by
   have:((b.rooms.length:Nat) : Int)≤t:=Ji c2
   have:=(bj.mp z).2
   omega
 have c2':¬ ((b.rooms.length:Nat) : Int)≤t:=fun z=>c2 (Je z)
 obtain ⟨sh,rfl⟩:=Int.eq_ofNat_of_zero_le (Int.not_lt.mp c')
 have hs':sh<b.rooms.length:=by omega
 exact ⟨_,rfl,y,_,_,_,_,rfl,p.yard,T.cy,T.yh,ic _ _ _,_,rfl,_,_,_,_,rfl,rfl,SqL.of p.shows,eW hs',k1 (bj.mpr ⟨by omega,by omega⟩)⟩
theorem iL:wb ["self","number"] ["self","number"] (vZ sYfa):=L2.wy rfl rfl rfl rfl (by decide +kernel)
theorem vP {f:Addr} {fd:FuncData} (F:Fun K "find_any" "Yard.find_any" sYfa f fd) (T':Txt K mg Z) (X_NoKeeping:XD P w K mg base R "NoKeeping" "no keeping" 2) : we P w K mg base (CXX P w K R) 4 f fd ["self","number"] (xG Z):=by
 have T:=T'
 refine okX F iL (fun vs H Q E h=>?_) (fun cdv A outer s H vs Q E hr h=>?_)
 ·obtain ⟨y,a,b,hs,t,rfl,_⟩:=h
  rfl
 obtain ⟨y,a,b,hs,t,rfl,p,k1,k2⟩:=h
 refine ⟨_,    (ae
 (aH (PW.pt (dJ (au cP (pv 1) ag (wa _)) (cM (au gH (pv 1) (aJ aG rfl T.len bF (aa (aL (pv 0) rfl) aj)) (wa _)))))
 (ak
 (eS X_NoKeeping hr.mn rfl rfl wC))
 aB)
 (ak
 (aA (ax av (aL (pv 0) rfl) (pv 1) (fun _ _=>rfl))))),?_⟩
 refine ⟨_,rfl,_,_,rfl,rfl,_,rfl,?_⟩
 have no:¬ b.wZ t=true→yE H "no keeping" E:=fun c=>k2 (Bool.eq_false_iff.mpr c)
 refine wx (fun c=>?_) (fun c=>?_)
 ·exact xq (no fun z=>by have:=Ji c;have:=(cA.mp z).1;omega)
 refine ⟨_,rfl,_,rfl,y,_,_,_,_,rfl,p.yard,T.cy,T.yk,fi _ _ _,_,_,rfl,.inl (SqL.of p.keeps),_,_,rfl,rfl,_,rfl,?_⟩
 rw [bR,Yh]
 have c':¬ t<0:=fun z=>c (Je z)
 refine wx (fun c2=>?_) (fun c2=>?_)
 ·exact no fun z=>by
   have:((b.all.length:Nat) : Int)≤t:=Ji c2
   have:=(cA.mp z).2
   omega
 have c2':¬ ((b.all.length:Nat) : Int)≤t:=fun z=>c2 (Je z)
 obtain ⟨sh,rfl⟩:=Int.eq_ofNat_of_zero_le (Int.not_lt.mp c')
 have hs':sh<b.all.length:=by omega
 exact ⟨_,rfl,y,_,_,_,_,rfl,p.yard,T.cy,T.yk,fi _ _ _,_,rfl,_,_,_,_,rfl,rfl,SqL.of p.keeps,eW hs',k1 (cA.mpr ⟨by omega,by omega⟩)⟩
theorem lP {b:vY} {t:Int} (h:b.wZ t=true) : ∃ n:Nat,t=(n:Nat)∧n<b.all.length:=by
 obtain ⟨h1,h2⟩:=cA.mp h
 obtain ⟨n,rfl⟩:=Int.eq_ofNat_of_zero_le h1
 exact ⟨n,rfl,by omega⟩
theorem dG:wb ["self","number","keeping"] ["self","number"] (vZ sYfk):=L2.wy rfl rfl rfl rfl (by decide +kernel)
theorem vQ {f:Addr} {fd:FuncData} (F:Fun K "find_keeping" "Yard.find_keeping" sYfk f fd) (T':Txt K mg Z) (X_NoKeeping:XD P w K mg base R "NoKeeping" "no keeping" 2) (M_Yard_find_any:MD P w K mg base (CXX P w K R) Z.Y "find_any" ["self","number"] 4 (xG Z)) : we P w K mg base (CXX P w K R) 5 f fd ["self","number"] (xH Z):=by
 have T:=T'
 refine okX F dG (fun vs H Q E h=>?_) (fun cdv A outer s H vs Q E hr h=>?_)
 ·obtain ⟨y,a,b,hs,t,rfl,_⟩:=h
  rfl
 obtain ⟨y,a,b,hs,t,rfl,p,k1,k2⟩:=h
 refine ⟨_,    (ae
 (aC (i:=2) dG.nd rfl (Or.inl rfl) (bz M_Yard_find_any T.cy hr.mn wC (pv 0) (aa (pv 1) aj)))
 (ae
 (aH (au bb (aL (pv 2) rfl) (cz (v:=.str "gone") rfl T.GONE ⟨_,rfl⟩) (wa _))
 (ak
 (eS X_NoKeeping hr.mn rfl rfl wC))
 aB)
 (ak
 (aA (pv 2))))),?_⟩
 refine ⟨_,rfl,y,_,_,rfl,p.yard,noY,_,rfl,y,a,b,hs,t,rfl,p,fun h1=>?_,fun h1=>k2 (by unfold vY.live;rw [h1];rfl)⟩
 obtain ⟨n,rfl,hn⟩:=lP h1
 rw [Jp] at k1 ⊢
 have hq:=p.kp n hn
 refine ⟨_,rfl,_,_,_,_,_,rfl,hq,T.ck,T.ks,cL _ _,rfl,_,rfl,?_⟩
 rw [show decide (V.str (b.at n).st.txt=V.str "gone")=decide ((b.at n).st=.gone) from jc _]
 refine wx (fun c=>?_) (fun c=>?_)
 ·exact k2 (by unfold vY.live;rw [Jp,h1,Bool.true_and];exact Js fun z=>z (Ji c))
 ·exact ⟨_,rfl,k1 (by unfold vY.live;rw [Jp,h1,Bool.true_and];exact Je fun z=>c (Je z))⟩
theorem fM {b:vY} {t:Int} (h:b.live t=true) : ∃ n:Nat,t=(n:Nat)∧n<b.all.length∧(b.at n).st≠.gone:=by
 unfold vY.live at h
 rw [Yb] at h
 obtain ⟨n,rfl,hn⟩:=lP h.1
 have:=h.2
 rw [Jp,Jx] at this
 exact ⟨n,rfl,hn,this⟩
theorem qg {b:vY} {hr:Nat→List Nat} (O:b.Ok) (X:wq b hr) {n:Nat} (hn:n<b.all.length) (hw:(b.at n).st=.waiting) : wq (b.left n) hr:=by
 have k:=X.put (r:=(b.at n).go) hn rfl (by rw [fJ hw];rfl)
 exact ⟨k.nd,k.mem⟩
theorem nW {b:vY} {hr:Nat→List Nat} (X:wq b hr) {n:Nat} (hn:n<b.all.length) : wq (b.left n) (fun k=>if k=(b.at n).shw then (hr k).erase n else hr k):=by
 have k:=X.drop (r:=(b.at n).go) hn rfl
 exact ⟨k.nd,k.mem⟩
theorem fY {r:Rec} (h1:r.st≠.waiting) (h2:r.st≠.gone) : r.kept=true:=by
 unfold Rec.kept
 cases e:r.st with
 | held=>rfl
 | taken=>rfl
 | waiting=>exact absurd e h1
 | gone=>exact absurd e h2
theorem iT:wb ["self","keeping","place"] ["self","keeping"] (vZ sYend):=L2.wy rfl rfl rfl rfl (by decide +kernel)
theorem uI {f:Addr} {fd:FuncData} (F:Fun K "end" "Yard.end" sYend f fd) (T':Txt K mg Z) (M_Show_let_go:MD P w K mg base CX0 Z.S "let_go" ["self","keeping"] 1 (spGo Z)) (M_Keeping_leave:MD P w K mg base CX0 Z.K "leave" ["self"] 1 (ye Z 0 zX)) (M_Show_serve:MD P w K mg base CX0 Z.S "serve" ["self","now"] 3 (xp Z)) :
  we P w K mg base CX0 4 f fd ["self","keeping"] (spEnd Z):=by
 have T:=T'
 refine F.ok iT (fun vs H Q E h=>?_) (fun cdv A outer s H vs Q E hr h=>?_)
 ·obtain ⟨y,a,b,hs,n,rfl,_⟩:=h
  rfl
 obtain ⟨y,a,b,hs,n,rfl,⟨p,Ob,O,hl⟩,hn,hng,k⟩:=h
 refine ⟨_,    (ae
 (aC (i:=2) iT.nd rfl (Or.inl rfl) (ax av (aL (pv 0) rfl) (aL (pv 1) rfl) (fun _ _=>rfl)))
 (ae
 (aF (bz M_Show_let_go T.cs hr.mn wg (pv 2) (aa (pv 1) aj)))
 (ae
 (aF (eN M_Keeping_leave T.ck hr.mn wg (pv 1)))
 (ak
 (aA (bz M_Show_serve T.cs hr.mn wg (pv 2) (aa (aL (pv 0) rfl) aj))))))),?_⟩
 have hq:=p.kp n hn
 have hj:=Ob.shw n hn
 have hp:=p.shw _ hj
 refine ⟨_,rfl,y,_,_,_,_,rfl,p.yard,T.cy,T.yh,ic _ _ _,_,rfl,_,_,_,_,_,rfl,hq,T.ck,T.kh,iI _ _,_,_,_,_,rfl,rfl,SqL.of p.shows,eW hj,?_⟩
 have hrow:∀ m∈b.rows.getD (b.at n).shw [],m<b.all.length:=fun m h=>(Ob.row _ m h).1
 refine ⟨_,rfl,_,_,_,rfl,hp,noS,_,rfl,y,a,b,hs,(b.at n).shw,n,rfl,p,hj,hn,O.lt _,hrow,?_⟩
 have fin:∀ (H1:Hp) (hs1:Nat→List Nat) (b1:vY),wk Z H y a b H1 a b1 hs1→b1.at n=b.at n→b1.all=b.all→b1.now=b.now→({ b1 with all:=b1.all.set n (b.at n).go } : vY)=b.left n→wq (b.left n) hs1 →
   (tSeq (tDrop (yS Z.K "leave" (ye Z 0 zX) [] E0 (yx 1) yP)) (tRet (yS Z.S "serve" (xp Z) [] E0 (yx 2) (xV (tFld K (yx 0) "now") yP)))) { nx:=fun _ H'=>Q .non H',rt:=Q } [some (.ref y),some (.ref (a.q n)),some (.ref (a.p (b.at n).shw))] H1:=by
  intro H1 hs1 b1 A1 e1 e2 e3 e4 O1
  have hn1:n<b1.all.length:=by rw [e2];exact hn
  have hq1:=A1.pic.kp n hn1
  rw [e1] at hq1
  have A2:=A1.zD hn1 (b.at n).go
  rw [e4] at A2
  refine ⟨_,rfl,_,_,_,rfl,hq1,noK,_,_,n,b.at n,_,[],rfl,rfl,hq1,rfl,?_⟩
  generalize upd H1 (a.q n) (.ins Z.K (a.qd n) (wu n (b.at n).go))=H2 at A2
  have Ol:=cW Ob hn
  have hjl:=cv Ob hn
  have hp2:=A2.pic.shw _ hjl
  have en:(b.left n).now=b.now:=iF b n
  refine ⟨_,rfl,_,_,_,rfl,hp2,noS,_,rfl,y,_,_,_,_,rfl,A2.pic.yard,T.cy,T.yn,jA _ _ _,y,a,b.left n,hs1,(b.at n).shw,rfl,A2.pic,Ol,O1,hjl,by rw [d8];omega,fun H3 a3 hs3 l A3 O3 ep eq hl3 nl3 hl3'=>?_⟩
  rw [← cX] at A3 O3 nl3 hl3'
  exact k H3 a3 hs3 l (A2.trans A3) O3 ep eq (A2.back hl3) nl3 hl3'
 by_cases c:(b.at n).st=.waiting
 ·rw [J3 c]
  refine ⟨Ob.wait n hn c,?_⟩
  have A1:=(wk.refl p).yD hj ((b.rows.getD (b.at n).shw []).erase n)
  exact fin _ hs _ A1 rfl rfl rfl (by unfold vY.left;rw [gX c]) (qg Ob O hn c)
 ·rw [J0 c]
  refine ⟨(O.mem _ n).mpr ⟨hn,rfl,fY c hng⟩,?_⟩
  have A1:=(wk.refl p).Av hj ((hs (b.at n).shw).erase n)
  refine fin _ _ _ A1 rfl rfl rfl (by unfold vY.left;rw [gY c]) ?_
  have O2:=nW O hn
  refine ⟨fun k=>?_,fun k i=>?_⟩
  ·have:=O2.nd k
   by_cases e:k=(b.at n).shw
   ·rw [J3 e] at this ⊢;rw [← e];exact this
   ·rw [J0 e] at this ⊢;exact this
  ·have:=O2.mem k i
   by_cases e:k=(b.at n).shw
   ·rw [J3 e] at this ⊢;rw [← e];exact this
   ·rw [J0 e] at this ⊢;exact this
end
end Kp
namespace Kp
open PySem L2
theorem yE.same {H H1:Hp} {t:Str} {E:XK} (g:wm H H1) (h:yE H t E) : yE H1 t E:=fun cls dx H' s n e=>h cls dx H' (g.trans s) (g.free n) e
theorem yj.no {Z:Cs} {H:Hp} {y:Addr} {a:YAd} {b:vY} {r:vY × Dt} {Q:VK} {E:XK} (k:yj Z H y a b r Q E) {t:Str} (e:r=(b,.str t)) : yE H t E:=k.2 t e
theorem yj.at {Z:Cs} {H:Hp} {y:Addr} {a:YAd} {b:vY} {r r':vY × Dt} {Q:VK} {E:XK} (k:yj Z H y a b r Q E) (e:r=r') : yj Z H y a b r' Q E:=e ▸ k
section
variable {P:Program} {w:World} {K:Ay} {mg:Str→Option Value} {base:Heap} {Z:Cs} {R:Addr}
theorem back_eq {b:vY} {n:Int} (h:b.live n=true) : b.done (.back n)=((b.leave n.toNat).1,wY (b.leave n.toNat).2):=J0 (by rw [h];decide)
theorem uJ {b:vY} {n:Int} (h:b.live n=true) : b.done (.take n)=b.wW n.toNat:=J0 (by rw [h];decide)
theorem uK {b:vY} {n m:Int} (h:b.live n=true) : b.done (.part n m)=b.wV n.toNat m:=J0 (by rw [h];decide)
theorem uL {b:vY} {n s:Int} (h:b.live n=true) : b.done (.move n s)=b.moveTo n.toNat s:=J0 (by rw [h];decide)
theorem uM {b:vY} {n:Int} {x:Str} (h:b.live n=true) : b.done (.pass n x)=({ b with all:=b.all.set n.toNat { b.at n.toNat with who:=x } },.str "passed"):=J0 (by rw [h];decide)
theorem lQ:wb ["self","number"] ["self","number"] (vZ z6):=L2.wy rfl rfl rfl rfl (by decide +kernel)
theorem sX {f:Addr} {fd:FuncData} (F:Fun K "back" "Yard.back" z6 f fd) (T':Txt K mg Z) (M_Yard_find_keeping:MD P w K mg base (CXX P w K R) Z.Y "find_keeping" ["self","number"] 5 (xH Z)) (M_Yard_end:MD P w K mg base CX0 Z.Y "end" ["self","keeping"] 4 (spEnd Z)) :
  we P w K mg base (CXX P w K R) 6 f fd ["self","number"] (wI Z dBack 1):=by
 have T:=T'
 refine okX F lQ (fun vs H Q E h=>h.len) (fun cdv A outer s H vs Q E hr h=>?_)
 obtain ⟨y,a,b,hs,xs,dd,rfl,-,⟨t,rfl,rfl⟩,⟨p,Ob,O,hl⟩,k⟩:=h
 refine ⟨_,    (ak
 (aA (bz M_Yard_end T.cy hr.mn wg (pv 0) (aa (bz M_Yard_find_keeping T.cy hr.mn wC (pv 0) (aa (pv 1) aj)) aj)))),?_⟩
 refine ⟨_,rfl,y,_,_,rfl,p.yard,noY,_,rfl,y,_,_,rfl,p.yard,noY,_,rfl,y,a,b,hs,t,rfl,p,fun h1=>?_,fun h1=>k.no (J3 h1)⟩
 have k:=k.at (back_eq h1)
 obtain ⟨n,rfl,hn,hng⟩:=fM h1
 rw [Jp] at k ⊢
 exact ⟨y,a,b,hs,n,rfl,⟨p,Ob,O,hl⟩,hn,hng,fun H' a' hs' l A' O' _ _ h0 hn h1=>k.1 H' a' hs' _ A' O' (dw hn h1) (cY h0)⟩
theorem iu:wb ["self","number","keeping"] ["self","number"] (vZ z4):=L2.wy rfl rfl rfl rfl (by decide +kernel)
theorem sY {f:Addr} {fd:FuncData} (F:Fun K "take" "Yard.take" z4 f fd) (T':Txt K mg Z) (M_Yard_find_keeping:MD P w K mg base (CXX P w K R) Z.Y "find_keeping" ["self","number"] 5 (xH Z)) (M_Keeping_take:MD P w K mg base CX0 Z.K "take" ["self"] 1 (ye Z 0 gTake)) (X_NotHeld:XD P w K mg base R "NotHeld" "not held" 2) :
  we P w K mg base (CXX P w K R) 6 f fd ["self","number"] (wI Z dTake 1):=by
 have T:=T'
 refine okX F iu (fun vs H Q E h=>h.len) (fun cdv A outer s H vs Q E hr h=>?_)
 obtain ⟨y,a,b,hs,xs,dd,rfl,-,⟨t,rfl,rfl⟩,⟨p,Ob,O,hl⟩,k⟩:=h
 refine ⟨_,    (ae
 (aC (i:=2) iu.nd rfl (Or.inl rfl) (bz M_Yard_find_keeping T.cy hr.mn wC (pv 0) (aa (pv 1) aj)))
 (ae
 (aH (au fD (aL (pv 2) rfl) (cz (v:=.str "held") rfl T.HELD ⟨_,rfl⟩) (wa _))
 (ak
 (eS X_NotHeld hr.mn rfl rfl wC))
 aB)
 (ae
 (aF (eN M_Keeping_take T.ck hr.mn wg (pv 2)))
 (ak
 (aA (aL (pv 2) rfl)))))),?_⟩
 refine ⟨_,rfl,y,_,_,rfl,p.yard,noY,_,rfl,y,a,b,hs,t,rfl,p,fun h1=>?_,fun h1=>k.no (J3 h1)⟩
 have k:=k.at (uJ h1)
 obtain ⟨n,rfl,hn,hng⟩:=fM h1
 rw [Jp] at k ⊢
 have hq:=p.kp n hn
 refine ⟨_,rfl,_,_,_,_,_,rfl,hq,T.ck,T.ks,cL _ _,rfl,_,rfl,?_⟩
 rw [show decide (V.str (b.at n).st.txt=V.str "held")=decide ((b.at n).st=.held) from ip _]
 refine wx (fun c=>?_) (fun c=>?_)
 ·have c:¬ (b.at n).st=.held:=fun z=>by rw [Je z] at c;cases c
  exact k.no (J0 c)
 have c:(b.at n).st=.held:=Classical.byContradiction fun z=>c (by rw [Js z];rfl)
 have k:=k.at (show b.wW n=_ from J3 c)
 refine ⟨_,rfl,_,_,_,rfl,hq,noK,_,_,n,b.at n,_,[],rfl,rfl,hq,rfl,?_⟩
 refine ⟨_,rfl,_,_,_,_,_,rfl,af,T.ck,T.ks,cL _ _,?_⟩
 exact k.1 _ a hs _ ((wk.refl p).zD hn _) (O.put hn rfl (by show true=_;unfold Rec.kept;rw [c];rfl)) aN bA
theorem iw:wb ["self","number","many","keeping"] ["self","number","many"] (vZ z7):=L2.wy rfl rfl rfl rfl (by decide +kernel)
theorem sZ {f:Addr} {fd:FuncData} (F:Fun K "part" "Yard.part" z7 f fd) (T':Txt K mg Z) (M_Yard_find_keeping:MD P w K mg base (CXX P w K R) Z.Y "find_keeping" ["self","number"] 5 (xH Z)) (M_Keeping_give_back:MD P w K mg base CX0 Z.K "give_back" ["self","many"] 1 (ye Z 1 gGive))
  (M_Show_serve:MD P w K mg base CX0 Z.S "serve" ["self","now"] 3 (xp Z)) (X_NoPlaces:XD P w K mg base R "NoPlaces" "no places" 2) (X_TooMany:XD P w K mg base R "TooMany" "too many" 2) :
  we P w K mg base (CXX P w K R) 6 f fd ["self","number","many"] (wI Z dPart 2):=by
 have T:=T'
 refine okX F iw (fun vs H Q E h=>h.len) (fun cdv A outer s H vs Q E hr h=>?_)
 obtain ⟨y,a,b,hs,xs,dd,rfl,-,⟨t,m,rfl,rfl⟩,⟨p,Ob,O,hl⟩,k⟩:=h
 refine ⟨_,    (ae
 (aC (i:=3) iw.nd rfl (Or.inl rfl) (bz M_Yard_find_keeping T.cy hr.mn wC (pv 0) (aa (pv 1) aj)))
 (ae
 (aH (au cP (pv 2) ag (wa _))
 (ak
 (eS X_NoPlaces hr.mn rfl rfl wC))
 aB)
 (ae
 (aH (au gH (pv 2) (aL (pv 3) rfl) (wa _))
 (ak
 (eS X_TooMany hr.mn rfl rfl wC))
 aB)
 (ae
 (aF (bz M_Keeping_give_back T.ck hr.mn wg (pv 3) (aa (pv 2) aj)))
 (ak
 (aA (bz M_Show_serve T.cs hr.mn wg (ax av (aL (pv 0) rfl) (aL (pv 3) rfl) (fun _ _=>rfl)) (aa (aL (pv 0) rfl) aj)))))))),?_⟩
 refine ⟨_,rfl,y,_,_,rfl,p.yard,noY,_,rfl,y,a,b,hs,t,rfl,p,fun h1=>?_,fun h1=>k.no (J3 h1)⟩
 have k:=k.at (uK h1)
 obtain ⟨n,rfl,hn,hng⟩:=fM h1
 rw [Jp] at k ⊢
 have hq:=p.kp n hn
 unfold vY.wV at k
 refine ⟨_,rfl,_,_,rfl,rfl,_,rfl,?_⟩
 refine wx (fun c=>?_) (fun c=>?_)
 ·exact k.no (J3 (Ji c))
 have k:=k.at (J0 fun z=>c (Je z))
 refine ⟨_,rfl,_,rfl,_,_,_,_,_,rfl,hq,T.ck,T.km,fH _ _,_,_,rfl,rfl,_,rfl,?_⟩
 refine wx (fun c=>?_) (fun c=>?_)
 ·exact k.no (J3 (Ji c))
 have k:=k.at (J0 fun z=>c (Je z))
 refine ⟨_,rfl,_,_,_,rfl,hq,noK,_,rfl,_,_,n,b.at n,_,[.int m],rfl,rfl,hq,⟨m,rfl,rfl⟩,?_⟩
 have A1:=(wk.refl p).zD hn { b.at n with many:=(b.at n).many-m }
 have O1:=O.put (r:={ b.at n with many:=(b.at n).many-m }) hn rfl rfl
 have Ob1:=Ob.put (r:={ b.at n with many:=(b.at n).many-m }) hn (Ob.shw n hn) Iff.rfl (fun _=>rfl) (Ob.til n hn)
 have hq1:(upd H (a.q n) (.ins Z.K (a.qd n) (wu n { b.at n with many:=(b.at n).many-m }))) (a.q n)=some (.ins Z.K (a.qd n) (wu n { b.at n with many:=(b.at n).many-m })):=af
 generalize upd H (a.q n) (.ins Z.K (a.qd n) (wu n { b.at n with many:=(b.at n).many-m }))=H1 at A1 hq1
 have hj:(b.at n).shw<b.rooms.length:=Ob.shw n hn
 have hp1:=A1.pic.shw (b.at n).shw hj
 refine ⟨_,rfl,y,_,_,_,_,rfl,A1.pic.yard,T.cy,T.yh,ic _ _ _,_,rfl,_,_,_,_,_,rfl,hq1,T.ck,T.kh,iI _ _,_,_,_,_,rfl,rfl,SqL.of A1.pic.shows,eW hj,_,_,_,rfl,hp1,noS,_,rfl,y,_,_,_,_,rfl,A1.pic.yard,T.cy,T.yn,jA _ _ _,?_⟩
 refine ⟨y,a,_,hs,(b.at n).shw,rfl,A1.pic,Ob1,O1,hj,by show (b.all.set _ _).length≤600;rw [Jt];omega,fun H3 a3 hs3 l A3 O3 _ _ hl3 nl3 hl3'=>?_⟩
 exact k.1 H3 a3 hs3 _ (A1.trans A3) O3 (dw nl3 hl3') (cY (A1.back hl3))
theorem i3:wb ["self","number","who"] ["self","number","who"] (vZ z9):=L2.wy rfl rfl rfl rfl (by decide +kernel)
theorem tf {f:Addr} {fd:FuncData} (F:Fun K "pass_on" "Yard.pass_on" z9 f fd) (T':Txt K mg Z) (M_Yard_find_keeping:MD P w K mg base (CXX P w K R) Z.Y "find_keeping" ["self","number"] 5 (xH Z)) (M_Keeping_pass_to:MD P w K mg base CX0 Z.K "pass_to" ["self","who"] 1 (ye Z 1 gPass)) :
  we P w K mg base (CXX P w K R) 6 f fd ["self","number","who"] (wI Z dPass 2):=by
 have T:=T'
 refine okX F i3 (fun vs H Q E h=>h.len) (fun cdv A outer s H vs Q E hr h=>?_)
 obtain ⟨y,a,b,hs,xs,dd,rfl,-,⟨t,x,rfl,rfl⟩,⟨p,Ob,O,hl⟩,k⟩:=h
 refine ⟨_,    (ae
 (aF (bz M_Keeping_pass_to T.ck hr.mn wg (bz M_Yard_find_keeping T.cy hr.mn wC (pv 0) (aa (pv 1) aj)) (aa (pv 2) aj)))
 (ak
 (aA ay))),?_⟩
 refine ⟨_,rfl,y,_,_,rfl,p.yard,noY,_,rfl,y,a,b,hs,t,rfl,p,fun h1=>?_,fun h1=>k.no (J3 h1)⟩
 have k:=k.at (uM h1)
 obtain ⟨n,rfl,hn,hng⟩:=fM h1
 rw [Jp] at k ⊢
 have hq:=p.kp n hn
 refine ⟨_,_,_,rfl,hq,noK,_,rfl,_,_,n,b.at n,_,[.str x],rfl,rfl,hq,⟨x,rfl,rfl⟩,?_⟩
 exact k.1 _ a hs _ ((wk.refl p).zD hn _) (O.put hn rfl rfl) aN bA
theorem i4:wb ["self","show"] ["self","show"] (vZ Ab):=L2.wy rfl rfl rfl rfl (by decide +kernel)
theorem ix {b:vY} {t:Int} (h:b.wo t=true) : ∃ n:Nat,t=(n:Nat)∧n<b.rooms.length:=by
 obtain ⟨h1,h2⟩:=bj.mp h
 obtain ⟨n,rfl⟩:=Int.eq_ofNat_of_zero_le h1
 exact ⟨n,rfl,by omega⟩
theorem tj {f:Addr} {fd:FuncData} (F:Fun K "free_at" "Yard.free_at" Ab f fd) (T':Txt K mg Z) (M_Yard_find_show:MD P w K mg base (CXX P w K R) Z.Y "find_show" ["self","show"] 4 (xk Z)) (M_Show_free_places:MD P w K mg base CX0 Z.S "free_places" ["self"] 2 (zo Z)) :
  we P w K mg base (CXX P w K R) 5 f fd ["self","show"] (wI Z dFree 1):=by
 have T:=T'
 refine okX F i4 (fun vs H Q E h=>h.len) (fun cdv A outer s H vs Q E hr h=>?_)
 obtain ⟨y,a,b,hs,xs,dd,rfl,-,⟨t,rfl,rfl⟩,⟨p,Ob,O,hl⟩,k⟩:=h
 refine ⟨_,    (ak
 (aA (eN M_Show_free_places T.cs hr.mn wg (bz M_Yard_find_show T.cy hr.mn wC (pv 0) (aa (pv 1) aj))))),?_⟩
 refine ⟨_,rfl,y,_,_,rfl,p.yard,noY,_,rfl,y,a,b,hs,t,rfl,p,fun h1=>?_,fun h1=>k.no (J3 h1)⟩
 have k:=k.at (show b.done (.free t)=(b,.int (b.spare t.toNat)) from J0 (by rw [h1];decide))
 obtain ⟨n,rfl,hn⟩:=ix h1
 rw [Jp] at k ⊢
 exact ⟨_,_,_,rfl,p.shw n hn,noS,y,a,b,hs,n,rfl,p,O,hn,by omega,fun H' g=>k.1 H' a hs _ ((wk.refl p).same g) O bE rA⟩
theorem jG:wb ["self","show"] ["self","show"] (vZ sYrow):=L2.wy rfl rfl rfl rfl (by decide +kernel)
theorem uN {f:Addr} {fd:FuncData} (F:Fun K "row_at" "Yard.row_at" sYrow f fd) (T':Txt K mg Z) (M_Yard_find_show:MD P w K mg base (CXX P w K R) Z.Y "find_show" ["self","show"] 4 (xk Z)) (M_Show_numbers_waiting:MD P w K mg base CX0 Z.S "numbers_waiting" ["self"] 1 (spNum Z)) :
  we P w K mg base (CXX P w K R) 5 f fd ["self","show"] (wI Z dRow 1):=by
 have T:=T'
 refine okX F jG (fun vs H Q E h=>h.len) (fun cdv A outer s H vs Q E hr h=>?_)
 obtain ⟨y,a,b,hs,xs,dd,rfl,-,⟨t,rfl,rfl⟩,⟨p,Ob,O,hl⟩,k⟩:=h
 refine ⟨_,    (ak
 (aA (eN M_Show_numbers_waiting T.cs hr.mn wg (bz M_Yard_find_show T.cy hr.mn wC (pv 0) (aa (pv 1) aj))))),?_⟩
 refine ⟨_,rfl,y,_,_,rfl,p.yard,noY,_,rfl,y,a,b,hs,t,rfl,p,fun h1=>?_,fun h1=>k.no (J3 h1)⟩
 have k:=k.at (show b.done (.row t)=(b,wY (b.rows.getD t.toNat [])) from J0 (by rw [h1];decide))
 obtain ⟨n,rfl,hn⟩:=ix h1
 rw [Jp] at k ⊢
 have hrl:=Ob.len n
 exact ⟨_,_,_,rfl,p.shw n hn,noS,y,a,b,hs,n,rfl,p,hn,fun m h=>(Ob.row n m h).1,by omega,fun H' l g hl hl'=>k.1 H' a hs _ ((wk.refl p).same g) O (dw (p.new hl) hl') (cY hl)⟩
theorem cB:wb ["self","number","keeping"] ["self","number"] (vZ yv):=L2.wy rfl rfl rfl rfl (by decide +kernel)
theorem qh {f:Addr} {fd:FuncData} (F:Fun K "state_of" "Yard.state_of" yv f fd) (T':Txt K mg Z) (M_Yard_find_any:MD P w K mg base (CXX P w K R) Z.Y "find_any" ["self","number"] 4 (xG Z)) :
  we P w K mg base (CXX P w K R) 5 f fd ["self","number"] (wI Z dState 1):=by
 have T:=T'
 refine okX F cB (fun vs H Q E h=>h.len) (fun cdv A outer s H vs Q E hr h=>?_)
 obtain ⟨y,a,b,hs,xs,dd,rfl,-,⟨t,rfl,rfl⟩,⟨p,Ob,O,hl⟩,k⟩:=h
 refine ⟨_,    (ae
 (aC (i:=2) cB.nd rfl (Or.inl rfl) (bz M_Yard_find_any T.cy hr.mn wC (pv 0) (aa (pv 1) aj)))
 (ak
 (aA (bu (aa (aL (pv 2) rfl) (aa (aL (pv 2) rfl) (aa (aL (pv 2) rfl) (aa (aL (pv 2) rfl) (aa (aL (pv 2) rfl) aj))))))))),?_⟩
 refine ⟨_,rfl,y,_,_,rfl,p.yard,noY,_,rfl,y,a,b,hs,t,rfl,p,fun h1=>?_,fun h1=>k.no (J3 h1)⟩
 have k:=k.at (show b.done (.state t)=(b,.tup [.str (b.at t.toNat).who,.int ((b.at t.toNat).shw:Nat),.int (b.at t.toNat).many,.str (b.at t.toNat).st.txt,x5 (b.at t.toNat).til]) from J0 (by rw [h1];decide))
 obtain ⟨n,rfl,hn⟩:=lP h1
 rw [Jp] at k ⊢
 have hq:=p.kp n hn
 refine ⟨_,rfl,_,_,_,_,_,rfl,hq,T.ck,T.kw,u7 _ _,_,rfl,_,_,_,_,_,rfl,hq,T.ck,T.kh,iI _ _,_,rfl,_,_,_,_,_,rfl,hq,T.ck,T.km,fH _ _,_,rfl,_,_,_,_,_,rfl,hq,T.ck,T.ks,cL _ _,_,rfl,_,_,_,_,_,rfl,hq,T.ck,T.ku,lG _ _,(by show 5≤sizeLine;decide),fun z hz=>?_⟩
 exact k.1 _ a hs _ ((wk.refl p).same (ai hz _)) O (dO (p.new hz) af (aI aN (aI bE (aI bE (aI aN (aI (lC _) bD)))))) (cY hz)
end
end Kp
namespace Kp
open PySem L2
theorem wq.ext {b:vY} {hr hr':Nat→List Nat} (O:wq b hr) (h:∀ k,hr' k=hr k) : wq b hr':=⟨fun j=>by rw [h];exact O.nd j,fun j i=>by rw [h];exact O.mem j i⟩
section
variable {P:Program} {w:World} {K:Ay} {mg:Str→Option Value} {base:Heap} {Z:Cs} {R:Addr}
theorem fm:wb ["self","who","show","many","span","place","keeping"] ["self","who","show","many","span"] (vZ zZ):=L2.wy rfl rfl rfl rfl (by decide +kernel)
theorem tq {f:Addr} {fd:FuncData} (F:Fun K "keep" "Yard.keep" zZ f fd) (T':Txt K mg Z) (M_Yard_find_show:MD P w K mg base (CXX P w K R) Z.Y "find_show" ["self","show"] 4 (xk Z)) (K_Keeping:KD P w K mg base "Keeping" Z.K ["self","number","who","show","many","span"] 1 (Ak Z))
  (M_Show_line_up:MD P w K mg base CX0 Z.S "line_up" ["self","keeping"] 1 (zJ Z true)) (M_Show_serve:MD P w K mg base CX0 Z.S "serve" ["self","now"] 3 (xp Z)) (X_NoPlaces:XD P w K mg base R "NoPlaces" "no places" 2) (X_TooMany:XD P w K mg base R "TooMany" "too many" 2) (X_NoSpan:XD P w K mg base R "NoSpan" "no span" 2) :
  we P w K mg base (CXX P w K R) 5 f fd ["self","who","show","many","span"] (wI Z dKeep 4):=by
 have T:=T'
 refine okX F fm (fun vs H Q E h=>h.len) (fun cdv A outer s H vs Q E hr h=>?_)
 obtain ⟨y,a,b,hs,xs,dd,rfl,-,⟨x,t,m,g,rfl,rfl⟩,⟨p,Ob,O,hl⟩,k⟩:=h
 refine ⟨_,    (ae
 (aC (i:=5) fm.nd rfl (Or.inl rfl) (bz M_Yard_find_show T.cy hr.mn wC (pv 0) (aa (pv 2) aj)))
 (ae
 (aH (au cP (pv 3) ag (wa _))
 (ak
 (eS X_NoPlaces hr.mn rfl rfl wC))
 aB)
 (ae
 (aH (au fW (pv 3) (aL (pv 5) rfl) (wa _))
 (ak
 (eS X_TooMany hr.mn rfl rfl wC))
 aB)
 (ae
 (aH (au cP (pv 4) ag (wa _))
 (ak
 (eS X_NoSpan hr.mn rfl rfl wC))
 aB)
 (ae
 (aC (i:=6) fm.nd rfl (Or.inl rfl) (oC K_Keeping hr.mn rfl (aa (aJ aG rfl T.len bF (aa (aL (pv 0) rfl) aj)) (aa (pv 1) (aa (pv 2) (aa (pv 3) (aa (pv 4) aj)))))))
 (ae
 (aF (bP Jl Jq Jr aX (aL (pv 0) rfl) (aa (pv 6) aj)))
 (ae
 (aF (bz M_Show_line_up T.cs hr.mn wg (pv 5) (aa (pv 6) aj)))
 (ae
 (aF (bz M_Show_serve T.cs hr.mn wg (pv 5) (aa (aL (pv 0) rfl) aj)))
 (ak
 (aA (bu (aa (aL (pv 6) rfl) (aa (aL (pv 6) rfl) aj))))))))))))),?_⟩
 have k:=k.at (show b.done (.keep x t m g)=b.enter x t m g from rfl)
 refine ⟨_,rfl,y,_,_,rfl,p.yard,noY,_,rfl,y,a,b,hs,t,rfl,p,fun h1=>?_,fun h1=>k.no (J3 h1)⟩
 have k:=k.at (J0 (by rw [h1];decide))
 obtain ⟨j,rfl,hj⟩:=ix h1
 rw [Jp] at k ⊢
 have hp:=p.shw j hj
 refine ⟨_,rfl,_,_,rfl,rfl,_,rfl,?_⟩
 refine wx (fun c=>?_) (fun c=>?_)
 ·exact k.no (J3 (Ji c))
 have k:=k.at (J0 fun z=>c (Je z))
 refine ⟨_,rfl,_,rfl,_,_,_,_,_,rfl,hp,T.cs,T.sr,rQ _ _ _,_,_,rfl,rfl,_,rfl,?_⟩
 refine wx (fun c=>?_) (fun c=>?_)
 ·exact k.no (J3 (Ji c))
 have k:=k.at (J0 fun z=>c (Je z))
 refine ⟨_,rfl,_,_,rfl,rfl,_,rfl,?_⟩
 refine wx (fun c=>?_) (fun c=>?_)
 ·exact k.no (J3 (Ji c))
 have k:=k.at (J0 fun z=>c (Je z))
 refine ⟨_,rfl,y,_,_,_,_,rfl,p.yard,T.cy,T.yk,fi _ _ _,_,_,rfl,.inl (SqL.of p.keeps),_,rfl,_,rfl,_,rfl,_,rfl,fun q d nq nd ne=>?_⟩
 rw [bR,Yh]
 refine ⟨q,d,b.all.length,x,j,m,g,rfl,af,rfl,?_⟩
 rw [cS]
 have g2:wm H (upd (upd H d (.own q)) q (.ins Z.K d (wu b.all.length ⟨x,j,m,g,.waiting,none⟩))):=fun c o h=>by
  rw [ao (aE h nq),ao (aE h nd)]
  exact h
 have hq2:(upd (upd H d (.own q)) q (.ins Z.K d (wu b.all.length ⟨x,j,m,g,.waiting,none⟩))) q=some (.ins Z.K d (wu b.all.length ⟨x,j,m,g,.waiting,none⟩)):=af
 generalize upd (upd H d (.own q)) q (.ins Z.K d (wu b.all.length ⟨x,j,m,g,.waiting,none⟩))=H2 at g2 hq2
 have p2:=p.same g2
 have hrow:∀ k,∀ n∈b.rows.getD k [],n<b.all.length:=fun k n h=>(Ob.row k n h).1
 have A3:=((wk.refl p).same g2).addK hq2 nq O.lt hrow
 have O3:=O.add (r:=⟨x,j,m,g,.waiting,none⟩) rfl
 refine ⟨_,rfl,y,_,_,_,_,rfl,p2.yard,T.cy,T.yk,fi _ _ _,.inl ⟨rfl,_,SqL.of p2.keeps⟩,_,rfl,_,_,_,rfl,rfl,p2.keeps,big (by rw [bR,Yh];omega),?_⟩
 generalize upd H2 (a.c 1) (.lst (rfq a.q (List.range b.all.length)++[.ref q]))=H3 at A3
 have aq:(if b.all.length=b.all.length then q else a.q b.all.length)=q:=J3 rfl
 generalize ha3:({ a with q:=fun i=>if i=b.all.length then q else a.q i,qd:=fun i=>if i=b.all.length then d else a.qd i } : YAd)=a3 at A3
 have e3:a3.q b.all.length=q:=by rw [← ha3];exact aq
 have ep:a3.p=a.p:=by rw [← ha3]
 have hp3:=A3.pic.shw j hj
 have hw3:=A3.pic.row j hj
 rw [ep] at hp3
 have hrl:=Ob.len j
 have A4:=A3.yD hj (b.rows.getD j []++[b.all.length])
 refine ⟨_,rfl,_,_,_,rfl,hp3,noS,_,rfl,_,_,_,_,_,_,_,rfl,hp3,hw3,(by rw [bR];show (b.rows.getD j []).length≤1000;omega),?_⟩
 refine wz (H':=upd H3 (a3.c (2*j+3)) (.lst (rfq a3.q (b.rows.getD j []++[b.all.length])))) (by rw [← jF,e3];rfl) ?_
 generalize upd H3 (a3.c (2*j+3)) (.lst (rfq a3.q (b.rows.getD j []++[b.all.length])))=H4 at A4
 have Ob4:=Ob.enter (r:=⟨x,j,m,g,.waiting,none⟩) hj rfl rfl
 have hp4:=A4.pic.shw j hj
 rw [ep] at hp4
 refine ⟨_,rfl,_,_,_,rfl,hp4,noS,_,rfl,y,_,_,_,_,rfl,A4.pic.yard,T.cy,T.yn,jA _ _ _,?_⟩
 rw [← ep]
 refine ⟨y,a3,_,hs,j,rfl,A4.pic,Ob4,⟨O3.nd,O3.mem⟩,hj,by show (b.all++[_]).length≤600;rw [Jc,Jo];omega,fun H5 a5 hs5 l A5 O5 ep5 eq5 hl5 nl5 hl5'=>?_⟩
 have S5:=cm (s:=j) Ob4 hj
 have hn5:b.all.length<(vY.serve { b with all:=b.all++[⟨x,j,m,g,.waiting,none⟩],rows:=b.rows.set j (b.rows.getD j []++[b.all.length]) } j).1.all.length:=by
  rw [S5.len]
  show _<(b.all++[_]).length
  rw [Jc,Jo]
  omega
 have hq5:=A5.pic.kp _ hn5
 rw [eq5,e3] at hq5
 refine ⟨_,rfl,_,_,_,_,_,rfl,hq5,T.ck,T.kn,eU _ _,_,rfl,_,_,_,_,_,rfl,hq5,T.ck,T.ks,cL _ _,(by show 2≤sizeLine;decide),fun z hz=>?_⟩
 have A6:=(A4.trans A5).same (ai hz (.tup [.int (b.all.length:Nat),.str ((vY.serve { b with all:=b.all++[⟨x,j,m,g,.waiting,none⟩],rows:=b.rows.set j (b.rows.getD j []++[b.all.length]) } j).1.at b.all.length).st.txt]))
 exact k.1 _ a5 hs5 _ A6 O5 (dO (A5.pic.new hz) af (aI bE (aI aN bD))) (cY ((A4.trans A5).back hz))
theorem dQ:wb ["self","number","show","keeping","place","left"] ["self","number","show"] (vZ z8):=L2.wy rfl rfl rfl rfl (by decide +kernel)
theorem tE {f:Addr} {fd:FuncData} (F:Fun K "move" "Yard.move" z8 f fd) (T':Txt K mg Z) (M_Yard_find_keeping:MD P w K mg base (CXX P w K R) Z.Y "find_keeping" ["self","number"] 5 (xH Z)) (M_Yard_find_show:MD P w K mg base (CXX P w K R) Z.Y "find_show" ["self","show"] 4 (xk Z))
  (M_Show_has_room_for:MD P w K mg base CX0 Z.S "has_room_for" ["self","many"] 3 (spHas Z)) (M_Show_let_go:MD P w K mg base CX0 Z.S "let_go" ["self","keeping"] 1 (spGo Z)) (M_Keeping_move_to:MD P w K mg base CX0 Z.K "move_to" ["self","show"] 1 (ye Z 1 gMove)) (M_Show_let_in:MD P w K mg base CX0 Z.S "let_in" ["self","keeping"] 1 (zJ Z false))
  (M_Show_serve:MD P w K mg base CX0 Z.S "serve" ["self","now"] 3 (xp Z)) (X_NotHeld:XD P w K mg base R "NotHeld" "not held" 2) (X_SameShow:XD P w K mg base R "SameShow" "same show" 2) (X_Full:XD P w K mg base R "Full" "full" 2) :
  we P w K mg base (CXX P w K R) 6 f fd ["self","number","show"] (wI Z dMove 2):=by
 have T:=T'
 refine okX F dQ (fun vs H Q E h=>h.len) (fun cdv A outer s H vs Q E hr h=>?_)
 obtain ⟨y,a,b,hs,xs,dd,rfl,-,⟨t,u,rfl,rfl⟩,⟨p,Ob,O,hl⟩,k⟩:=h
 refine ⟨_,    (ae
 (aC (i:=3) dQ.nd rfl (Or.inl rfl) (bz M_Yard_find_keeping T.cy hr.mn wC (pv 0) (aa (pv 1) aj)))
 (ae
 (aC (i:=4) dQ.nd rfl (Or.inl rfl) (bz M_Yard_find_show T.cy hr.mn wC (pv 0) (aa (pv 2) aj)))
 (ae
 (aH (au bb (aL (pv 3) rfl) (cz (v:=.str "waiting") rfl T.WAITING ⟨_,rfl⟩) (wa _))
 (ak
 (eS X_NotHeld hr.mn rfl rfl wC))
 aB)
 (ae
 (aH (au bb (aL (pv 3) rfl) (pv 2) (wa _))
 (ak
 (eS X_SameShow hr.mn rfl rfl wC))
 aB)
 (ae
 (aH (fB (dZ (bz M_Show_has_room_for T.cs hr.mn wg (pv 4) (aa (aL (pv 3) rfl) aj))))
 (ak
 (eS X_Full hr.mn rfl rfl wC))
 aB)
 (ae
 (aC (i:=5) dQ.nd rfl (Or.inl rfl) (ax av (aL (pv 0) rfl) (aL (pv 3) rfl) (fun _ _=>rfl)))
 (ae
 (aF (bz M_Show_let_go T.cs hr.mn wg (pv 5) (aa (pv 3) aj)))
 (ae
 (aF (bz M_Keeping_move_to T.ck hr.mn wg (pv 3) (aa (pv 2) aj)))
 (ae
 (aF (bz M_Show_let_in T.cs hr.mn wg (pv 4) (aa (pv 3) aj)))
 (ak
 (aA (bz M_Show_serve T.cs hr.mn wg (pv 5) (aa (aL (pv 0) rfl) aj))))))))))))),?_⟩
 refine ⟨_,rfl,y,_,_,rfl,p.yard,noY,_,rfl,y,a,b,hs,t,rfl,p,fun h1=>?_,fun h1=>k.no (J3 h1)⟩
 have k:=k.at (uL h1)
 obtain ⟨n,rfl,hn,hng⟩:=fM h1
 rw [Jp] at k ⊢
 have hq:=p.kp n hn
 unfold vY.moveTo at k
 refine ⟨_,rfl,y,_,_,rfl,p.yard,noY,_,rfl,y,a,b,hs,u,rfl,p,fun h2=>?_,fun h2=>k.no (J3 h2)⟩
 have k:=k.at (J0 (by rw [h2];decide))
 obtain ⟨j,rfl,hj⟩:=ix h2
 rw [Jp] at k ⊢
 have hp:=p.shw j hj
 refine ⟨_,rfl,_,_,_,_,_,rfl,hq,T.ck,T.ks,cL _ _,rfl,_,rfl,?_⟩
 rw [show decide (V.str (b.at n).st.txt=V.str "waiting")=decide ((b.at n).st=.waiting) from jb _]
 refine wx (fun c=>?_) (fun c=>?_)
 ·exact k.no (J3 (Ji c))
 have cw:¬ (b.at n).st=.waiting:=fun z=>c (Je z)
 have k:=k.at (J0 cw)
 clear c
 refine ⟨_,rfl,_,_,_,_,_,rfl,hq,T.ck,T.kh,iI _ _,_,rfl,rfl,_,rfl,?_⟩
 rw [oE]
 refine wx (fun c=>?_) (fun c=>?_)
 ·exact k.no (J3 (Ji c))
 have cs:¬ ((b.at n).shw:Int)=(j:Nat):=fun z=>c (Je z)
 have k:=k.at (J0 cs)
 clear c
 have cs':(b.at n).shw≠j:=fun z=>cs (by rw [z])
 have hrl:=Ob.len j
 refine ⟨_,rfl,_,_,_,rfl,hp,noS,_,rfl,_,_,_,_,_,rfl,hq,T.ck,T.km,fH _ _,y,a,b,hs,j,_,rfl,p,O,hj,by omega,by omega,fun H1 g1=>⟨_,rfl,?_⟩⟩
 have p1:=p.same g1
 refine wx (fun c=>?_) (fun c=>?_)
 ·refine (k.no (J3 ?_)).same g1
  by_cases c1:b.rows.getD j []=[]
  ·right
   have c2:¬ (b.at n).many≤b.spare j:=fun z=>by rw [Je c1,Je z] at c;cases c
   omega
  ·exact .inl c1
 have c12:b.rows.getD j []=[]∧(b.at n).many≤b.spare j:=by
  refine ⟨Classical.byContradiction fun z=>c (by rw [Js z];rfl),Classical.byContradiction fun z=>c (by rw [Js z,Bool.and_false];rfl)⟩
 have k:=k.at (J0 fun z=>z.elim (fun z=>z c12.1) fun z=>by have:=c12.2;omega)
 clear c
 have hq1:=p1.kp n hn
 have hjo:=Ob.shw n hn
 have hpo:=p1.shw _ hjo
 refine ⟨_,rfl,y,_,_,_,_,rfl,p1.yard,T.cy,T.yh,ic _ _ _,_,rfl,_,_,_,_,_,rfl,hq1,T.ck,T.kh,iI _ _,_,_,_,_,rfl,rfl,SqL.of p1.shows,eW hjo,?_⟩
 have hrow:∀ m∈b.rows.getD (b.at n).shw [],m<b.all.length:=fun m h=>(Ob.row _ m h).1
 have kept:=fY cw hng
 refine ⟨_,rfl,_,_,_,rfl,hpo,noS,_,rfl,y,a,b,hs,(b.at n).shw,n,rfl,p1,hjo,hn,O.lt _,hrow,?_⟩
 rw [J0 cw]
 refine ⟨(O.mem _ n).mpr ⟨hn,rfl,kept⟩,?_⟩
 have A2:=((wk.refl p).same g1).Av hjo ((hs (b.at n).shw).erase n)
 generalize upd H1 (a.c (2*(b.at n).shw+2)) (.lst (rfq a.q ((hs (b.at n).shw).erase n)))=H2 at A2
 have hq2:=A2.pic.kp n hn
 refine ⟨_,rfl,_,_,_,rfl,hq2,noK,_,rfl,_,_,n,b.at n,_,[.int (j:Nat)],rfl,rfl,hq2,⟨j,rfl,rfl⟩,?_⟩
 have A3:=A2.zD hn { b.at n with shw:=j }
 generalize upd H2 (a.q n) (.ins Z.K (a.qd n) (wu n { b.at n with shw:=j }))=H3 at A3
 have hp3:=A3.pic.shw j hj
 have hh3:=A3.pic.here j hj
 rw [J0 (Ne.symm cs')] at hh3
 have hhl:=O.len j
 refine ⟨_,rfl,_,_,_,rfl,hp3,noS,_,rfl,_,_,_,_,_,_,_,rfl,hp3,hh3,(by rw [bR];omega),?_⟩
 have A4:=A3.Av hj (hs j++[n])
 refine wz (H':=upd H3 (a.c (2*j+2)) (.lst (rfq a.q (hs j++[n])))) (by rw [← jF];rfl) ?_
 generalize upd H3 (a.c (2*j+2)) (.lst (rfq a.q (hs j++[n])))=H4 at A4
 have O4:=(O.move hn kept cs').ext (hr':=fun k=>if k=j then hs j++[n] else if k=(b.at n).shw then (hs (b.at n).shw).erase n else hs k) fun k=>by
  by_cases e:k=j
  ·rw [J3 e,J3 e]
  ·rw [J0 e,J0 e]
   by_cases e2:k=(b.at n).shw
   ·rw [J3 e2,J3 e2,e2]
   ·rw [J0 e2,J0 e2]
 have Ob4:=Ob.put (r:={ b.at n with shw:=j }) hn hj Iff.rfl (fun z=>absurd z cw) (Ob.til n hn)
 have hp4:=A4.pic.shw (b.at n).shw hjo
 refine ⟨_,rfl,_,_,_,rfl,hp4,noS,_,rfl,y,_,_,_,_,rfl,A4.pic.yard,T.cy,T.yn,jA _ _ _,y,a,_,_,(b.at n).shw,rfl,A4.pic,Ob4,O4,hjo,by show (b.all.set _ _).length≤600;rw [Jt];omega,fun H5 a5 hs5 l A5 O5 _ _ hl5 nl5 hl5'=>?_⟩
 exact k.1 H5 a5 hs5 _ (A4.trans A5) O5 (dw nl5 hl5') (cY (A4.back hl5))
end
end Kp
namespace Kp
open PySem L2
abbrev sNext:Stmt:=top 19
abbrev Prs:=List (Addr × List Int)
def rfp (es:Prs) : List V:=es.map fun e=>V.ref e.1
def late (t:Int) (e:Addr × List Int) : Bool:=decide (e.2.headD 0≤t)
def xu (H:Hp) (es:Prs) : Prop:=∀ e∈es,∃ u n:Int,e.2=[u,n]∧H e.1=some (.tup [.int u,.int n])
theorem xu.same {H H':Hp} {es:Prs} (h:xu H es) (g:wm H H') : xu H' es:=fun e he=>by
 obtain ⟨u,n,a,b⟩:=h e he
 exact ⟨u,n,a,g _ _ b⟩
theorem xu.sub {H:Hp} {es fs:Prs} (h:xu H es) (g:∀ e∈fs,e∈es) : xu H fs:=fun e he=>h e (g e he)
theorem xu.tups {K:Ay} {H:Hp} {es:Prs} (h:xu H es) : ∀ e∈es,SqT K H e.1 (e.2.map V.int):=fun e he=>by
 obtain ⟨u,n,a,b⟩:=h e he
 rw [a]
 exact SqT.of b
def spNext (K:Ay) : Sp:=fun vs H Q _=>∃ (a:Addr) (t:Int) (es:Prs),vs=[.ref a,.int t]∧SqL K H a (rfp es)∧xu H es∧es.length≤1000∧∀ H',wm H H'→Q (xJ (es.filter (late t))) H'
theorem vR {es:Prs} {i:Nat} {y:V} (h:(rfp es)[i]? = some y) : ∃ e,es[i]? = some e∧y=V.ref e.1:=by
 unfold rfp at h
 rw [Jw] at h
 cases e:es[i]? with
 | none=>rw [e] at h;cases h
 | some z=>rw [e] at h;exact ⟨z,rfl,(Option.some.inj h).symm⟩
theorem mN {α:Type} {p : α→Bool} {l:List α} {i:Nat} {v : α} (h:l[i]? = some v) : (l.take (i+1)).filter p=(l.take i).filter p++if p v=true then [v] else []:=by
 rw [List.take_add_one,h,List.filter_append]
 cases hp:p v <;> simp [hp]
theorem nd2:((["pair"] : List Str)++(["time"] : List Str)).Nodup:=by decide +kernel
section
variable {P:Program} {w:World} {K:Ay} {mg:Str→Option Value} {base:Heap} {Z:Cs} {R:Addr}
theorem j1:wb ["held","time"] ["held","time"] (vZ sNext):=L2.wy rfl rfl rfl rfl (by decide +kernel)
theorem uO {f:Addr} {fd:FuncData} (F:Fun K "next_lapse" "next_lapse" sNext f fd) (T':Txt K mg Z) : we P w K mg base CX0 2 f fd ["held","time"] (spNext K):=by
 have T:=T'
 refine F.ok j1 (fun vs H Q E h=>?_) (fun cdv A outer s H vs Q E hr h=>?_)
 ·obtain ⟨a,t,es,rfl,_⟩:=h
  rfl
 obtain ⟨a,t,es,rfl,hS,hH,hn,k⟩:=h
 refine ⟨_,    (ak
 (aA (pb (pq rfl hr.in1.yA) rfl T.min qS (aa (cj ["pair"] ["time"] [1] rfl (bC (pv 0)) (fun _ _ _ _ _ _=>aO (i:=0) nd2 rfl (Or.inl rfl)) (fun _ _ _ _ _ _=>k9 (au lZ (ax (aK:IxR _ (rIxT K)) (pv 0) ag (fun _ _=>rfl)) (pv 1) (wa _))) (fun _ _ _ _ _ _=>pv 0) (.cons rfl rfl (.inl rfl) .nil)) aj) (ue eG vm)))),?_⟩
 refine ⟨_,rfl,a,rfl,⟨_,hS⟩,fun acc hacc=>?_⟩
 refine bT (K:=K) (a:=a) (acc:=acc) (xs:=rfp es) (fun i τ H2=>∃ v:Option V,τ=[v,some (.int t)]∧wm H H2∧H2 acc=some (.lst (rfp ((es.take i).filter (late t))))) ⟨none,rfl,ai hacc _,af⟩ (fun i τ H2 _ ⟨_,_,g,_⟩=>g.seq hS) ?_ ?_
 ·rintro i x τ H2 N hN hi ⟨v,rfl,g,e⟩
  obtain ⟨y,hy,rfl⟩:=vR hi
  obtain ⟨u,m,ey,ht⟩:=hH y (List.mem_of_getElem? hy)
  have hlate:late t y=decide (u≤t):=by unfold late;rw [ey];rfl
  have hf:=mN (p:=late t) hy
  have hlen:((es.take i).filter (late t)).length≤1000:=Ju (List.length_filter_le _ _) (by rw [Y4];omega)
  refine ⟨_,rfl,y.1,_,_,_,rfl,rfl,SqT.of (g _ _ ht),rfl,_,rfl,_,_,rfl,rfl,_,rfl,?_⟩
  refine wx (fun c=>?_) (fun c=>?_)
  ·have c':u≤t:=Ji c
   rw [hlate,Je c',J3 rfl] at hf
   refine ⟨_,rfl,_,e,big (by unfold rfp;rw [J9];omega),hN _ _ ⟨_,rfl,bx g hacc _,?_⟩⟩
   rw [af,hf]
   simp [rfp]
  ·have c':¬ u≤t:=fun z=>c (Je z)
   rw [hlate,Js c',J0 Jn,List.append_nil] at hf
   exact hN _ _ ⟨_,rfl,g,by rw [hf];exact e⟩
 ·rintro τ H2 ⟨v,rfl,g,e⟩
  have el:es.take (rfp es).length=es:=by unfold rfp;rw [J9,Y8]
  rw [el] at e
  exact ⟨acc,es.filter (late t),rfl,rfl,SqL.of e,((hH.same g).sub fun z hz=>(Y2.mp hz).1).tups,k H2 g⟩
structure zt (b:vY) (es:Prs) (k:Nat) : Prop where
 m1:∀ e∈es,∃ (n:Nat) (u:Int),n<k∧(b.at n).st=.held∧(b.at n).til=some u∧e.2=[u,(n:Nat)]
 m2:∀ n u,n<k→(b.at n).st=.held→(b.at n).til=some u→∃ e∈es,e.2=[u,((n:Nat) : Int)]
 len:es.length≤k
def spHeld (Z:Cs) : Sp:=fun vs H Q _=>∃ (y:Addr) (a:YAd) (b:vY) (hr:Nat→List Nat),vs=[.ref y]∧Yd Z H y a b hr∧b.Ok∧b.all.length≤600∧∀ (H':Hp) (l:Addr) (es:Prs),wm H H'→H' l=some (.lst (rfp es))→xu H' es→zt b es b.all.length→Q (.ref l) H'
theorem gx:wb ["self"] ["self"] (vZ Aa):=L2.wy rfl rfl rfl rfl (by decide +kernel)
theorem tF {f:Addr} {fd:FuncData} (F:Fun K "held_until" "Yard.held_until" Aa f fd) (T':Txt K mg Z) : we P w K mg base CX0 1 f fd ["self"] (spHeld Z):=by
 have T:=T'
 refine F.ok gx (fun vs H Q E h=>?_) (fun cdv A outer s H vs Q E hr h=>?_)
 ·obtain ⟨y,a,b,hs,rfl,_⟩:=h
  rfl
 obtain ⟨y,a,b,hs,rfl,p,Ob,hl,k⟩:=h
 refine ⟨_,    (ak
 (aA (cj ["keeping"] [] [] rfl (bC (aL (pv 0) rfl)) (fun _ _ _ _ _ _=>aO (i:=0) (show List.Nodup ((["keeping"] : List Str)++([] : List Str)) from by decide +kernel) rfl (Or.inl rfl)) (fun _ _ _ _ _ _=>k9 (au bb (dm (K:=K) rfl (pv 0) rfl) (cz (v:=.str "held") rfl T.HELD ⟨_,rfl⟩) (wa _))) (fun _ _ _ _ _ _=>(bu (aa (dm (K:=K) rfl (pv 0) rfl) (aa (dm (K:=K) rfl (pv 0) rfl) aj)))) .nil))),?_⟩
 refine ⟨_,rfl,y,_,_,_,_,rfl,p.yard,T.cy,T.yk,fi _ _ _,_,rfl,⟨_,SqL.of p.keeps⟩,fun acc hacc=>?_⟩
 have gA:=ai hacc (.lst [])
 refine bT (K:=K) (a:=a.c 1) (xs:=rfq a.q (List.range b.all.length)) (fun i σ H2=>∃ (v:Option V) (es:Prs),σ=[v]∧wm H H2∧H2 acc=some (.lst (rfp es))∧xu H2 es∧zt b es i) ⟨none,[],rfl,gA,af,(fun _ h=>nomatch h),⟨(fun _ h=>nomatch h),(fun n u h=>absurd h (Y7 _)),Jm _⟩⟩ (fun i σ H2 _ ⟨_,_,_,g,_⟩=>SqL.of (g _ _ p.keeps)) ?_ ?_
 ·rintro i x σ H2 N hN hi ⟨v,es,rfl,g,e,hH,M⟩
  obtain ⟨n,hn,rfl⟩:=fj hi
  obtain ⟨hil,hin⟩:=Jg.mp hn
  rw [List.getElem_range] at hin
  subst hin
  rw [Yh] at hil
  have hq:=g _ _ (p.kp i hil)
  refine ⟨_,rfl,_,_,_,_,_,rfl,hq,T.ck,T.ks,cL _ _,rfl,_,rfl,?_⟩
  rw [show decide (V.str (b.at i).st.txt=V.str "held")=decide ((b.at i).st=.held) from ip _]
  refine wx (fun c=>?_) (fun c=>?_)
  ·have c:=Ji c
   have ht:=(Ob.til i hil).mp c
   cases hu:(b.at i).til with
   | none=>exact absurd hu ht
   | some u =>
    have eu:(wu i (b.at i)).lookup ("until" : Str)=some (.int u):=by rw [lG,hu];rfl
    refine ⟨_,rfl,_,_,_,_,_,rfl,hq,T.ck,T.ku,eu,_,rfl,_,_,_,_,_,rfl,hq,T.ck,T.kn,eU _ _,(by show 2≤sizeLine;decide),fun z hz=>?_⟩
    have gz:=ai hz (.tup [.int u,.int (i:Nat)])
    have hz3:(upd H2 z (.tup [.int u,.int (i:Nat)])) z=some (.tup [.int u,.int (i:Nat)]):=af
    have nz:z≠acc:=fun q=>by rw [q,e] at hz;cases hz
    generalize upd H2 z (.tup [.int u,.int (i:Nat)])=H3 at gz hz3
    have hl2:=M.len
    refine ⟨_,gz _ _ e,big (by unfold rfp;rw [J9];omega),hN _ _ ⟨_,es++[(z,[u,(i:Nat)])],rfl,bx (g.trans gz) hacc _,by rw [af];simp [rfp],fun d hd=>?_,⟨fun d hd=>?_,fun n u' hn hs hu'=>?_,by rw [Jc,Jo];omega⟩⟩⟩
    ·rcases Y1.mp hd with hd | hd
     ·obtain ⟨u1,n1,e1,e2⟩:=hH d hd
      refine ⟨u1,n1,e1,?_⟩
      have e3:=gz _ _ e2
      rw [ao (bS e3 (gz _ _ e) (by intro q;cases q))]
      exact e3
     ·rw [Y5] at hd
      subst hd
      exact ⟨u,i,rfl,by rw [ao nz];exact hz3⟩
    ·rcases Y1.mp hd with hd | hd
     ·obtain ⟨n1,u1,a1,a2⟩:=M.m1 d hd
      exact ⟨n1,u1,by omega,a2⟩
     ·rw [Y5] at hd
      subst hd
      exact ⟨i,u,by omega,c,hu,rfl⟩
    ·by_cases e1:n=i
     ·subst e1
      rw [hu] at hu'
      cases hu'
      exact ⟨_,Yc _ (Y5.mpr rfl),rfl⟩
     ·obtain ⟨d,hd,e2⟩:=M.m2 n u' (by omega) hs hu'
      exact ⟨d,Ye _ hd,e2⟩
  ·have c:¬ (b.at i).st=.held:=fun z=>c (Je z)
   refine hN _ _ ⟨_,es,rfl,g,e,hH,⟨fun d hd=>?_,fun n u' hn hs hu'=>?_,by have:=M.len;omega⟩⟩
   ·obtain ⟨n1,u1,a1,a2⟩:=M.m1 d hd
    exact ⟨n1,u1,by omega,a2⟩
   ·by_cases e1:n=i
    ·subst e1
     exact absurd hs c
    ·exact M.m2 n u' (by omega) hs hu'
 ·rintro σ H2 ⟨v,es,rfl,g,e,hH,M⟩
  rw [bR,Yh] at M
  exact k H2 acc es g e hH M
theorem yZ {u v:Int} {n m:Int} : HT.lexLt [u,n] [v,m]=true↔u<v∨(u=v∧n<m):=by
 rw [HT.d0]
 by_cases e:u=v
 ·rw [J3 e,HT.d0]
  by_cases e2:n=m
  ·rw [J3 e2,HT.eJ]
   exact ⟨(fun h=>by cases h),fun h=>by omega⟩
  ·rw [J0 e2,Jx]
   exact ⟨fun h=>.inr ⟨e,h⟩,fun h=>by omega⟩
 ·rw [J0 e,Jx]
  exact ⟨.inl,fun h=>by omega⟩
theorem mO {es:Prs} (hp:∀ e∈es,∃ u n:Int,e.2=[u,n]) : ∀ (k:Nat) {e:Addr × List Int},k≤es.length→xW (es.take k)=some e→e∈es∧∀ x∈es.take k,HT.lexLt x.2 e.2=false
 | 0,e,_,h=>by rw [List.take_zero,pe] at h;cases h
 | k+1,e,hk,h=>by
  have hg:=Ja (l:=es) (i:=k) (by omega)
  rw [bp hg,jt] at h
  have mem:es[k]∈es:=Yf _
  cases hb:xW (es.take k) with
  | none =>
   rw [hb] at h
   have h:some es[k]=some e:=h
   cases h
   have:es.take k=[]:=by
    cases hq:es.take k with
    | nil=>rfl
    | cons x l =>
     obtain ⟨c,_,e2⟩:=gS (es.take k) ((es.take k).length-1) (by rw [hq];simp)
     rw [show (es.take k).length-1+1=(es.take k).length from by rw [hq];simp,Y8,hb] at e2
     cases e2
   refine ⟨mem,fun x hx=>?_⟩
   rw [bp hg,this,List.nil_append,Y5] at hx
   subst hx
   obtain ⟨u,n,ee⟩:=hp _ mem
   rw [ee]
   exact Bool.eq_false_iff.mpr fun z=>by have:=yZ.mp z;omega
  | some c =>
   rw [hb] at h
   obtain ⟨c1,c2⟩:=mO hp k (by omega) hb
   obtain ⟨u,n,ee⟩:=hp _ mem
   obtain ⟨u1,n1,ec⟩:=hp _ c1
   have h:(if HT.lexLt es[k].2 c.2=true then some es[k] else some c)=some e:=h
   by_cases cc:HT.lexLt es[k].2 c.2=true
   ·rw [J3 cc] at h
    cases h
    refine ⟨mem,fun x hx=>?_⟩
    rw [bp hg] at hx
    rw [ee,ec] at cc
    have cc:=yZ.mp cc
    rcases Y1.mp hx with hx | hx
    ·obtain ⟨u2,n2,ex⟩:=hp _ (List.mem_of_mem_take hx)
     have:=c2 x hx
     rw [ex,ec] at this
     rw [ex,ee]
     refine Bool.eq_false_iff.mpr fun z=>?_
     have z:=yZ.mp z
     have w:HT.lexLt [u2,n2] [u1,n1]=true:=yZ.mpr (by omega)
     rw [this] at w
     cases w
    ·rw [Y5] at hx
     subst hx
     rw [ee]
     exact Bool.eq_false_iff.mpr fun z=>by have:=yZ.mp z;omega
   ·rw [J0 cc] at h
    cases h
    refine ⟨c1,fun x hx=>?_⟩
    rw [bp hg] at hx
    rcases Y1.mp hx with hx | hx
    ·exact c2 x hx
    ·rw [Y5] at hx
     subst hx
     exact Bool.eq_false_iff.mpr cc
theorem jH {b:vY} {es:Prs} {H:Hp} {t:Int} (Ob:b.Ok) (hH:xu H es) (M:zt b es b.all.length) :
  (xJ (es.filter (late t))=.non∧b.first t=none)∨∃ (l:Addr) (u:Int) (n:Nat),xJ (es.filter (late t))=.ref l∧H l=some (.tup [.int u,.int (n:Nat)])∧b.first t=some (u,n):=by
 have hp:∀ e∈es.filter (late t),∃ u n:Int,e.2=[u,n]:=fun e he=>by
  obtain ⟨u,n,a,_⟩:=hH e (Y2.mp he).1
  exact ⟨u,n,a⟩
 have in_:∀ u n,(u,n)∈heldBy t 0 b.all→∃ e∈es.filter (late t),e.2=[u,((n:Nat) : Int)]:=fun u n h=>by
  obtain ⟨_,r,hr,h1,h2,h3⟩:=gk h
  rw [Nat.sub_zero] at hr
  obtain ⟨hn,er⟩:=Jg.mp hr
  have ea:b.at n=r:=by rw [lI hn,er]
  obtain ⟨e,he,ee⟩:=M.m2 n u hn (by rw [ea];exact h1) (by rw [ea];exact h2)
  exact ⟨e,Y2.mpr ⟨he,by unfold late;rw [ee];exact Je h3⟩,ee⟩
 have out:∀ e∈es.filter (late t),∃ (u:Int) (n:Nat),e.2=[u,((n:Nat) : Int)]∧(u,n)∈heldBy t 0 b.all:=fun e he=>by
  obtain ⟨he,hl⟩:=Y2.mp he
  obtain ⟨n,u,hn,h1,h2,ee⟩:=M.m1 e he
  unfold late at hl
  rw [ee] at hl
  have hl:u≤t:=Ji hl
  refine ⟨u,n,ee,?_⟩
  have:=c8 (t:=t) (k:=0) (n:=n) (rs:=b.all) (r:=b.at n) h1 h2 hl (by rw [lI hn];exact Ja hn)
  rw [Nat.zero_add] at this
  exact this
 cases hb:xW (es.filter (late t)) with
 | none =>
  left
  have e0:es.filter (late t)=[]:=by
   cases hq:es.filter (late t) with
   | nil=>rfl
   | cons x l =>
    obtain ⟨c,_,e2⟩:=gS (es.filter (late t)) ((es.filter (late t)).length-1) (by rw [hq];simp)
    rw [show (es.filter (late t)).length-1+1=(es.filter (late t)).length from by rw [hq];simp,Y8,hb] at e2
    cases e2
  refine ⟨by unfold xJ;rw [hb],?_⟩
  have:heldBy t 0 b.all=[]:=by
   cases hq:heldBy t 0 b.all with
   | nil=>rfl
   | cons x l =>
    obtain ⟨e,he,_⟩:=in_ x.1 x.2 (by rw [hq];exact Jb)
    rw [e0] at he
    cases he
  unfold vY.first
  rw [this]
  rfl
 | some e =>
  right
  have hm:=mO hp (es.filter (late t)).length (Jm _) (e:=e) (by rw [Y8];exact hb)
  rw [Y8] at hm
  obtain ⟨m1,m2⟩:=hm
  obtain ⟨u,n,ee,hin⟩:=out e m1
  obtain ⟨u',n',e',ht⟩:=hH e (Y2.mp m1).1
  rw [ee] at e'
  injection e' with q1 q2
  injection q2 with q2
  subst q1 q2
  refine ⟨e.1,u,n,by unfold xJ;rw [hb],ht,?_⟩
  cases hf:b.first t with
  | none =>
   have:=fg hf
   rw [this] at hin
   cases hin
  | some p =>
   obtain ⟨p1,p2⟩:=cx (show xi (heldBy t 0 b.all)=some p from hf)
   obtain ⟨v,m⟩:=p
   have z:=p2 (u,n) hin
   obtain ⟨x,hx,ex⟩:=in_ v m p1
   have:=m2 x hx
   rw [ex,ee] at this
   have w:¬ (v<u∨(v=u∧((m:Nat) : Int)<(n:Nat))):=fun q=>by rw [yZ.mpr q] at this;cases this
   have z:¬ (u<v∨(u=v∧n<m)):=z
   have e1:u=v:=by omega
   have e2:n=m:=by omega
   rw [e1,e2]
end
end Kp
namespace Kp
open PySem L2
theorem Yd.yV {T:Cs} {H:Hp} {y:Addr} {a:YAd} {b:vY} {hr:Nat→List Nat} (P:Yd T H y a b hr) {l:Addr} {o:HO} (nl:l∉wF y a b.rooms.length b.all.length) : Yd T (upd H l o) y a b hr:=by
 have ne:∀ x,x∈wF y a b.rooms.length b.all.length→x≠l:=fun x hx e=>nl (e ▸ hx)
 have nc:∀ i,i<2*b.rooms.length+2→a.c i≠l:=fun i h=>ne _ (aW.mpr (.inr (.inl ⟨i,h,rfl⟩)))
 exact ⟨by rw [ao (ne _ (aW.mpr (.inl rfl)))];exact P.yard,by rw [ao (nc 0 (by omega))];exact P.shows,by rw [ao (nc 1 (by omega))];exact P.keeps,fun j h=>by rw [ao (ne _ (aW.mpr (.inr (.inr (.inl ⟨j,h,rfl⟩)))))];exact P.shw j h,fun j h=>by rw [ao (nc _ (by omega))];exact P.here j h,
  fun j h=>by rw [ao (nc _ (by omega))];exact P.row j h,fun i h=>by rw [ao (ne _ (aW.mpr (.inr (.inr (.inr ⟨i,h,rfl⟩)))))];exact P.kp i h,P.ci,P.pi,P.one,P.yk,P.ys,P.sk⟩
theorem wk.out {T:Cs} {H H1:Hp} {y:Addr} {a a1:YAd} {b b1:vY} {hr1:Nat→List Nat} (A:wk T H y a b H1 a1 b1 hr1) {q:Addr} (nq:q∉wF y a1 b1.rooms.length b1.all.length) (hq:H q=none) (o:HO) : wk T H y a b (upd H1 q o) a1 b1 hr1 :=
 ⟨A.pic.yV nq,A.keep.put (.inr hq) o,A.ext,c9 A.there _ _⟩
theorem wk.nout {T:Cs} {H H1:Hp} {y:Addr} {a a1:YAd} {b b1:vY} {hr1:Nat→List Nat} (A:wk T H y a b H1 a1 b1 hr1) {q:Addr} {o:HO} (nq:q∉wF y a b.rooms.length b.all.length) (hq:H q=some o) : q∉wF y a1 b1.rooms.length b1.all.length:=fun m=>(A.ext q m).elim nq fun z=>by rw [hq] at z;cases z
theorem tI (ts:Told) : xI (ts.map xa):=hU (fun t=>oB (bL (eF _) (bL (eF _) (bL (hV _) hX)))) ts
theorem wt.append {F:List Addr} {H:Hp} {es:List Dt} {ys:List V} (q:wt F H es ys) : ∀ {ds:List Dt} {xs:List V},wt F H ds xs→wt F H (ds++es) (xs++ys)
 | [],xs,h=>by unfold wt at h;subst h;exact q
 | d::ds,xs,h=>by
  unfold wt at h
  obtain ⟨x,zs,rfl,q1,r⟩:=h
  rw [List.cons_append,List.cons_append]
  exact aI q1 (wt.append q r)
def lapsed (t:Int) (n:Nat) (ms:List Nat) : Told:=(t,n,false)::ms.map fun m=>(t,m,true)
def Am (Z:Cs) : Sp:=fun vs H Q _=>∃ (y:Addr) (a:YAd) (b:vY) (hr:Nat→List Nat) (n:Nat),vs=[.ref y,.int (n:Nat)]∧Yok Z H y a b hr∧n<b.all.length∧(b.at n).st≠.gone ∧
 ∀ (H':Hp) (a':YAd) (hr':Nat→List Nat) (l:Addr) (xs:List V),wk Z H y a b H' a' (b.leave n).1 hr'→wq (b.leave n).1 hr'→H l=none→H' l=some (.lst xs)→wt (wF y a' (b.leave n).1.rooms.length (b.leave n).1.all.length) H' ((lapsed b.now n (b.leave n).2).map xa) xs→Q (.ref l) H'
section
variable {P:Program} {w:World} {K:Ay} {mg:Str→Option Value} {base:Heap} {Z:Cs} {R:Addr}
theorem fZ:wb ["self","number","numbers"] ["self","number"] (vZ zr):=L2.wy rfl rfl rfl rfl (by decide +kernel)
theorem qi {f:Addr} {fd:FuncData} (F:Fun K "lapse" "Yard.lapse" zr f fd) (T':Txt K mg Z) (M_Yard_end:MD P w K mg base CX0 Z.Y "end" ["self","keeping"] 4 (spEnd Z)) : we P w K mg base CX0 5 f fd ["self","number"] (Am Z):=by
 have T:=T'
 refine F.ok fZ (fun vs H Q E h=>?_) (fun cdv A outer s H vs Q E hr h=>?_)
 ·obtain ⟨y,a,b,hs,n,rfl,_⟩:=h
  rfl
 obtain ⟨y,a,b,hs,n,rfl,Y,hn,hng,k⟩:=h
 refine ⟨_,    (ae
 (aC (i:=2) fZ.nd rfl (Or.inl rfl) (bz M_Yard_end T.cy hr.mn wg (pv 0) (aa (ax av (aL (pv 0) rfl) (pv 1) (fun _ _=>rfl)) aj)))
 (ak
 (aA (az vv (a0 (aa (bu (aa (aL (pv 0) rfl) (aa (pv 1) (aa ay aj)))) aj)) (cj ["other"] ["self"] [0] rfl (bC (pv 2)) (fun _ _ _ _ _ _=>aO (i:=0) (show List.Nodup ((["other"] : List Str)++(["self"] : List Str)) from by decide +kernel) rfl (Or.inl rfl)) (fun _ _ _ _ _ _=>eC) (fun _ _ _ _ _ _=>(bu (aa (dm (K:=K) rfl (pv 1) rfl) (aa (pv 0) (aa (cz (v:=.str "held") rfl T.HELD ⟨_,rfl⟩) aj))))) (.cons rfl rfl (.inl rfl) .nil)))))),?_⟩
 have p:=Y.pic
 refine ⟨_,rfl,y,_,_,rfl,p.yard,noY,_,rfl,y,_,_,_,_,rfl,p.yard,T.cy,T.yk,fi _ _ _,_,rfl,_,_,_,_,rfl,rfl,SqL.of p.keeps,eW hn,y,a,b,hs,n,rfl,Y,hn,hng,fun H1 a1 hs1 l A1 O1 _ _ hl0 nl hl1=>?_⟩
 have S:=bQ Y.ok hn
 have sh:=cu (cW Y.ok hn) (cv Y.ok hn)
 rw [← cX,d8] at sh
 have ylen:=Y.len
 generalize hsv:b.leave n=sv at A1 O1 nl hl1 S sh k
 have en:sv.1.now=b.now:=S.now
 have y1:=A1.pic.yard
 rw [en] at y1
 refine ⟨_,rfl,y,_,_,_,_,rfl,y1,T.cy,T.yn,jA _ _ _,_,rfl,(by show 3≤sizeLine;decide),fun t0 ht0=>⟨(by show 1≤sizeLine;decide),fun l0 hl0'=>?_⟩⟩
 have g2:=ai ht0 (.tup [.int b.now,.int (n:Nat),.str "lapsed"])
 have t2:(upd H1 t0 (.tup [.int b.now,.int (n:Nat),.str "lapsed"])) t0=some (.tup [.int b.now,.int (n:Nat),.str "lapsed"]):=af
 have nt0:=A1.pic.new ht0
 generalize upd H1 t0 (.tup [.int b.now,.int (n:Nat),.str "lapsed"])=H2 at g2 t2 hl0'
 have g3:=ai hl0' (.lst [.ref t0])
 have l3:(upd H2 l0 (.lst [.ref t0])) l0=some (.lst [.ref t0]):=af
 generalize upd H2 l0 (.lst [.ref t0])=H3 at g3 l3
 have g13:=g2.trans g3
 have A3:=A1.same g13
 have hl3:=g13 _ _ hl1
 have y3:=g13 _ _ y1
 have r3:wt (wF y a1 sv.1.rooms.length sv.1.all.length) H3 [xa (b.now,n,false)] [.ref t0]:=aI (dO nt0 (g3 _ _ t2) (aI bE (aI bE (aI aN bD)))) bD
 refine ⟨_,rfl,l,rfl,⟨_,SqL.of hl3⟩,fun acc hacc=>?_⟩
 have nacc:=A3.pic.new hacc
 refine bT (K:=K) (a:=l) (xs:=sv.2.map nv) (fun i σ H4=>∃ (v:Option V) (ys:List V),σ=[v,some (.ref y)]∧wm H3 H4∧H4 acc=some (.lst ys)∧ys.length=i∧wt (acc::wF y a1 sv.1.rooms.length sv.1.all.length) H4 (((sv.2.take i).map fun m=>(b.now,m,true)).map xa) ys) ⟨none,[],rfl,ai hacc _,af,rfl,bD⟩ (fun i σ H4 _ ⟨_,_,_,g,_⟩=>SqL.of (g _ _ hl3)) ?_ ?_
 ·rintro i x σ H4 N hN hi ⟨v,ys,rfl,g,e,ey,r⟩
  rw [Jw] at hi
  cases ei:sv.2[i]? with
  | none=>rw [ei] at hi;cases hi
  | some o =>
   rw [ei] at hi
   cases hi
   have hil:=(Jg.mp ei).1
   refine ⟨_,rfl,y,_,_,_,_,rfl,g _ _ y3,T.cy,T.yn,jA _ _ _,_,rfl,(by show 3≤sizeLine;decide),fun z hz=>?_⟩
   have gz:=ai hz (.tup [.int b.now,nv o,.str "held"])
   have z5:(upd H4 z (.tup [.int b.now,nv o,.str "held"])) z=some (.tup [.int b.now,nv o,.str "held"]):=af
   have nz:z≠acc:=fun q=>by rw [q,e] at hz;cases hz
   have nzf:z∉acc::wF y a1 sv.1.rooms.length sv.1.all.length:=fun m=>(List.mem_cons.mp m).elim nz ((A3.same g).pic.new hz)
   have r5:=r.same gz
   have e5:=gz _ _ e
   generalize upd H4 z (.tup [.int b.now,nv o,.str "held"])=H5 at gz z5 r5 e5
   refine ⟨_,e5,big (by omega),hN _ _ ⟨_,ys++[.ref z],rfl,bx (g.trans gz) hacc _,af,by rw [Jc,Jo,ey],?_⟩⟩
   rw [bp ei,Jz,Jz]
   exact wt.snoc (dO nzf (by rw [ao nz];exact z5) (aI bE (aI bE (aI aN bD)))) (r5.step (wH.refl.put (.inl Jb) _) Ext.refl)
 ·rintro σ H4 ⟨v,ys,rfl,g,e,ey,r⟩
  rw [J9] at ey r
  rw [Y8] at r
  refine ⟨l0,acc,_,_,rfl,rfl,g _ _ l3,e,big' (by rw [Jy,List.length_nil,ey];omega),fun q hq=>?_⟩
  have gq:=ai hq (.lst ([.ref t0]++ys))
  have A4:=(A3.same g).same gq
  refine k _ a1 hs1 q _ A4 O1 ((A3.same g).back hq) af ?_
  exact wt.append ((r.step wH.refl Ext.drop).same gq) ((r3.same g).same gq)
theorem mP {b:vY} {t:Int} (h:¬ t<b.now) : b.done (.clock t)=((b.clock t).1,w9 (b.clock t).2):=J0 h
structure An (Z:Cs) (H:Hp) (y:Addr) (a:YAd) (b:vY) (t:Int) (l:Addr) (m:Nat) (fv:V) (H2:Hp) (a2:YAd) (hs2:Nat→List Nat) (b2:vY) (ts:Told) (xs:List V) : Prop where
 aft:wk Z H y a b H2 a2 b2 hs2
 ok:b2.Ok
 here:wq b2 hs2
 len:b2.all.length=b.all.length
 at_:H2 l=some (.lst xs)
 out:l∉wF y a2 b2.rooms.length b2.all.length
 reps:wt (l::wF y a2 b2.rooms.length b2.all.length) H2 (ts.map xa) xs
 live:wA b2.all≤m
 go:b.clock t=((b2.wj t m).1,ts++(b2.wj t m).2)
 sz:xs.length+600*m≤400000
 fst:(fv=.non∧b2.first t=none)∨∃ (q:Addr) (u:Int) (n:Nat),fv=.ref q∧H2 q=some (.tup [.int u,.int (n:Nat)])∧b2.first t=some (u,n)
theorem dv:wb ["self","time","told","first"] ["self","time"] (vZ zq):=L2.wy rfl rfl rfl rfl (by decide +kernel)
theorem qj {f:Addr} {fd:FuncData} (F:Fun K "clock" "Yard.clock" zq f fd) (T':Txt K mg Z) (F_next_lapse:FD P w K mg base CX0 "next_lapse" ["held","time"] 2 (spNext K)) (M_Yard_held_until:MD P w K mg base CX0 Z.Y "held_until" ["self"] 1 (spHeld Z)) (M_Yard_lapse:MD P w K mg base CX0 Z.Y "lapse" ["self","number"] 5 (Am Z)) (X_TooEarly:XD P w K mg base R "TooEarly" "too early" 2) :
  we P w K mg base (CXX P w K R) 6 f fd ["self","time"] (wI Z dClock 1):=by
 have T:=T'
 refine okX F dv (fun vs H Q E h=>h.len) (fun cdv A outer s H vs Q E hr h=>?_)
 obtain ⟨y,a,b,hs,xs,dd,rfl,-,⟨t,rfl,rfl⟩,⟨p,Ob,O,hl⟩,k⟩:=h
 refine ⟨_,    (ae
 (aH (au cP (pv 1) (aL (pv 0) rfl) (wa _))
 (ak
 (eS X_TooEarly hr.mn rfl rfl wC))
 aB)
(PSs.nox
 (ae
 (aC (i:=2) dv.nd rfl (Or.inl rfl) (a0 aj))
 (ae
 (aC (i:=3) dv.nd rfl (Or.inl rfl) (h9 F_next_lapse hr.mn rfl wg (aa (eN M_Yard_held_until T.cy hr.mn wg (pv 0)) (aa (pv 1) aj))))
 (ae
 (gG PassesOwn.never (au oh (pv 3) eG (wa _))
 (ae
 (bH (pv 0) (ax aK (pv 3) ag (fun _ _=>rfl)) rfl)
 (ae
 (aF (bP Jl PySem.F.slot_list_extend PySem.F.type_list_extend oY (pv 2) (aa (bz M_Yard_lapse T.cy hr.mn wg (pv 0) (aa (ax aK (pv 3) ag (fun _ _=>rfl)) aj)) aj)))
 (ak
 (aC (i:=3) dv.nd rfl (Or.inl rfl) (h9 F_next_lapse hr.mn rfl wg (aa (eN M_Yard_held_until T.cy hr.mn wg (pv 0)) (aa (pv 1) aj))))))))
 (ae
 (bH (pv 0) (pv 1) rfl)
 (ak
 (aA (pv 2))))))))),?_⟩
 refine ⟨_,rfl,_,rfl,y,_,_,_,_,rfl,p.yard,T.cy,T.yn,jA _ _ _,_,_,rfl,rfl,_,rfl,?_⟩
 refine wx (fun c=>?_) (fun c=>?_)
 ·exact k.no (J3 (Ji c))
 have k:=k.at (mP fun z=>c (Je z))
 clear c
 refine ⟨(by show 0≤sizeLine;decide),fun l hl0=>?_⟩
 have A1:=(wk.refl p).same (ai hl0 (.lst []))
 have l1:(upd H l (.lst [])) l=some (.lst ([] : List V)):=af
 have nl:=p.new hl0
 generalize upd H l (.lst [])=H1 at A1 l1
 refine ⟨_,rfl,y,_,_,rfl,A1.pic.yard,noY,y,a,b,hs,rfl,A1.pic,Ob,by omega,fun H2 q es g2 e2 hH M=>?_⟩
 refine ⟨_,rfl,q,t,es,rfl,SqL.of e2,hH,(by have:=M.len;omega),fun H3 g3=>?_⟩
 have g13:=g2.trans g3
 have F0:=jH (t:=t) Ob (hH.same g3) M
 generalize xJ (es.filter (late t))=fv0 at F0
 refine ⟨fun m σ H4=>∃ (fv:V) (a4:YAd) (hs4:Nat→List Nat) (b4:vY) (ts:Told) (xs:List V),σ=[some (.ref y),some (.int t),some (.ref l),some fv]∧An Z H y a b t l m fv H4 a4 hs4 b4 ts xs,
  ⟨_,fv0,a,hs,b,[],[],rfl,⟨A1.same g13,Ob,O,rfl,g13 _ _ l1,nl,bD,bg b,rfl,by simp;omega,F0⟩⟩,?_⟩
 rintro m σ H4 ⟨fv,a4,hs4,b4,ts,xs,rfl,I⟩
 refine ⟨_,rfl,rfl,_,rfl,?_⟩
 rcases I.fst with ⟨rfl,hf⟩ | ⟨q,u,n,rfl,hq,hf⟩
 ·
  refine ifF rfl ?_
  have hcl:=I.go
  rw [bf hf,List.append_nil] at hcl
  rw [hcl] at k
  refine ⟨_,rfl,_,rfl,y,_,_,_,rfl,I.aft.pic.yard,T.cy,T.yn,(by show 3<1000;decide),?_⟩
  have A5:=I.aft.setN t
  refine wz (H':=upd H4 y (.ins Z.Y a4.dy (wX (a4.c 0) (a4.c 1) t))) (congrArg (fun l=>upd H4 y (HO.ins Z.Y a4.dy l)) (u9 _ _ _ _)) ?_
  have ny:y≠l:=fun e=>I.out (aW.mpr (.inl e.symm))
  refine ⟨_,rfl,k.1 _ a4 hs4 _ A5 (I.here.now t) ?_ (cY hl0)⟩
  rw [mI]
  refine fb I.out (by rw [ao ny.symm];exact I.at_) ?_
  exact (I.reps.step (wH.refl.put (.inl (Jd _ (aW.mpr (.inl rfl)))) _) Ext.refl).step wH.refl Ext.drop
 ·
  refine ifT rfl ⟨fun σ' H'=>∃ m',m'<m∧∃ (fv:V) (a4:YAd) (hs4:Nat→List Nat) (b4:vY) (ts:Told) (xs:List V),σ'=[some (.ref y),some (.int t),some (.ref l),some fv]∧An Z H y a b t l m' fv H' a4 hs4 b4 ts xs,fun _ _ h=>h,?_⟩
  obtain ⟨hn,hst,hun⟩:=bw hf
  obtain ⟨jj,ej,ecl,hlv⟩:=ba hf I.ok I.live
  refine ⟨_,rfl,q,_,_,_,rfl,rfl,SqT.of hq,rfl,_,rfl,y,_,_,_,rfl,I.aft.pic.yard,T.cy,T.yn,(by show 3<1000;decide),?_⟩
  have A5:=I.aft.setN u
  refine wz (H':=upd H4 y (.ins Z.Y a4.dy (wX (a4.c 0) (a4.c 1) u))) (congrArg (fun l=>upd H4 y (HO.ins Z.Y a4.dy l)) (u9 _ _ _ _)) ?_
  have ny:y≠l:=fun e=>I.out (aW.mpr (.inl e.symm))
  have nq:q≠y:=bS hq I.aft.pic.yard (by intro z;cases z)
  have q5:(upd H4 y (.ins Z.Y a4.dy (wX (a4.c 0) (a4.c 1) u))) q=some (.tup [.int u,.int (n:Nat)]):=(ao nq).trans hq
  have l5:(upd H4 y (.ins Z.Y a4.dy (wX (a4.c 0) (a4.c 1) u))) l=some (.lst xs):=(ao ny.symm).trans I.at_
  have r5:wt (l::wF y a4 b4.rooms.length b4.all.length) (upd H4 y (.ins Z.Y a4.dy (wX (a4.c 0) (a4.c 1) u))) (ts.map xa) xs:=I.reps.step (wH.refl.put (.inl (Jd _ (aW.mpr (.inl rfl)))) _) Ext.refl
  generalize upd H4 y (.ins Z.Y a4.dy (wX (a4.c 0) (a4.c 1) u))=H5 at A5 q5 l5 r5
  have O5:=I.ok.now u
  have h5len:=I.len
  have ng:(b4.at n).st≠.gone:=by rw [hst];decide
  refine ⟨_,rfl,.inl ⟨rfl,_,SqL.of l5⟩,_,rfl,y,_,_,rfl,A5.pic.yard,noY,_,rfl,q,_,_,_,rfl,rfl,SqT.of q5,rfl,y,a4,{ b4 with now:=u },hs4,n,rfl,⟨A5.pic,O5,I.here.now u,by show b4.all.length≤500;omega⟩,hn,ng,fun H6 a6 hs6 l6 zs A6 O6 hl6 hl6' r6=>?_⟩
  have S:=bQ O5 (n:=n) hn
  have sh:=cu (cW O5 (n:=n) hn) (cv O5 (n:=n) hn)
  rw [← cX,d8] at sh
  replace sh:(vY.leave { b4 with now:=u } n).2.length≤b4.all.length:=sh
  have nl5:l∉wF y a4 ({ b4 with now:=u } : vY).rooms.length ({ b4 with now:=u } : vY).all.length:=I.out
  have l6x:=A6.keep _ _ l5 nl5
  have nl6:=A6.nout nl5 l5
  have zl:=r6.len
  rw [J9] at zl
  have zl2:zs.length=(vY.leave { b4 with now:=u } n).2.length+1:=by rw [zl];unfold lapsed;rw [Jy,J9]
  have szI:=I.sz
  have A56:=A5.trans A6
  refine ⟨l,l6,_,_,rfl,rfl,l6x,hl6',big' (by omega),?_⟩
  have nll:l6≠l:=fun e=>by rw [e,l5] at hl6;cases hl6
  have A7:=A56.out nl6 hl0 (.lst (xs++zs))
  have r7:wt (l::wF y a6 (vY.leave { b4 with now:=u } n).1.rooms.length (vY.leave { b4 with now:=u } n).1.all.length) (upd H6 l (.lst (xs++zs))) ((ts++lapsed u n (vY.leave { b4 with now:=u } n).2).map xa) (xs++zs):=by
   rw [Jz]
   refine wt.append ?_ ?_
   ·exact (wt.beside l6x (tI _) r6).step (wH.refl.put (.inl Jb) _) Ext.refl
   ·refine (r5.step A6.keep.more fun x m=>?_).step (wH.refl.put (.inl Jb) _) Ext.refl
    rcases List.mem_cons.mp m with e | e
    ·exact .inl (by rw [e];exact Jb)
    ·exact (A6.ext x e).imp (Jd _) id
  have l7:(upd H6 l (.lst (xs++zs))) l=some (.lst (xs++zs)):=af
  generalize upd H6 l (.lst (xs++zs))=H7 at A7 r7 l7
  generalize hsv:vY.leave { b4 with now:=u } n=sv at A7 r7 S sh zl2 ecl hlv O6 nl6
  have slen:sv.1.all.length=b.all.length:=S.len.trans I.len
  refine ⟨_,rfl,y,_,_,rfl,A7.pic.yard,noY,y,a6,sv.1,hs6,rfl,A7.pic,S.ok,by omega,fun H8 q8 es8 g8 e8 hH8 M8=>?_⟩
  refine ⟨_,rfl,q8,t,es8,rfl,SqL.of e8,hH8,(by have:=M8.len;omega),fun H9 g9=>?_⟩
  have g79:=g8.trans g9
  have F9:=jH (t:=t) S.ok (hH8.same g9) M8
  generalize xJ (es8.filter (late t))=fv9 at F9
  refine ⟨jj,by omega,fv9,a6,hs6,sv.1,_,_,rfl,A7.same g79,S.ok,O6,slen,g79 _ _ l7,nl6,r7.same g79,hlv,?_,?_,F9⟩
  ·have:=I.go
   rw [ej] at this
   rw [this,← ej,ecl]
   unfold lapsed
   simp
  ·rw [Jc,zl2]
   omega
end
end Kp
namespace Kp
open PySem L2
abbrev sDo:Stmt:=top 25
abbrev sAsk:Stmt:=top 26
abbrev zu:Stmt:=top 27
abbrev yf:Stmt:=top 28
def askN:wd→Option (Str × Int)
 | .free s=>some ("free",s)
 | .row s=>some ("row",s)
 | .state n=>some ("state",n)
 | _=>none
def spAsk (Z:Cs) : Sp:=fun vs H Q E=>∃ (y:Addr) (a:YAd) (b:vY) (hr:Nat→List Nat) (x:Str) (n:Int) (dd:wd),vs=[.ref y,.str x,.int n]∧askN dd=some (x,n)∧Yok Z H y a b hr∧yj Z H y a b (b.done dd) Q E
def spDo (Z:Cs) : Sp:=fun vs H Q E=>∃ (y:Addr) (a:YAd) (b:vY) (hr:Nat→List Nat) (x:Addr) (dd:wd),vs=[.ref y,.ref x]∧H x=some (.tup dd.vs)∧Yok Z H y a b hr∧yj Z H y a b (b.done dd) Q E
def yK (Z:Cs) : Sp:=fun vs H Q _=>∃ (y:Addr) (a:YAd) (b:vY) (hr:Nat→List Nat) (x:Addr) (dd:wd),vs=[.ref y,.ref x]∧H x=some (.tup dd.vs)∧Yok Z H y a b hr∧DealY Z H y a b (b.done dd) Q
section
variable {P:Program} {w:World} {K:Ay} {mg:Str→Option Value} {base:Heap} {Z:Cs} {R:Addr}
theorem vS:wb ["yard","name","number"] ["yard","name","number"] (vZ sAsk):=L2.wy rfl rfl rfl rfl (by decide +kernel)
theorem vT {f:Addr} {fd:FuncData} (F:Fun K "ask" "ask" sAsk f fd) (T':Txt K mg Z) (M_Yard_free_at:MD P w K mg base (CXX P w K R) Z.Y "free_at" ["self","show"] 5 (wI Z dFree 1)) (M_Yard_row_at:MD P w K mg base (CXX P w K R) Z.Y "row_at" ["self","show"] 5 (wI Z dRow 1)) (M_Yard_state_of:MD P w K mg base (CXX P w K R) Z.Y "state_of" ["self","number"] 5 (wI Z dState 1)) :
  we P w K mg base (CXX P w K R) 6 f fd ["yard","name","number"] (spAsk Z):=by
 have T:=T'
 refine okX F vS (fun vs H Q E h=>?_) (fun cdv A outer s H vs Q E hr h=>?_)
 ·obtain ⟨y,a,b,hs,x,n,dd,rfl,_⟩:=h
  rfl
 obtain ⟨y,a,b,hs,x,n,dd,rfl,e,Y,k⟩:=h
 refine ⟨_,    (ae
 (aH (au bb (pv 1) ay (wa _))
 (ak
 (aA (bz M_Yard_free_at T.cy hr.mn wC (pv 0) (aa (pv 2) aj))))
 aB)
 (ae
 (aH (au bb (pv 1) ay (wa _))
 (ak
 (aA (bz M_Yard_row_at T.cy hr.mn wC (pv 0) (aa (pv 2) aj))))
 aB)
 (ak
 (aA (bz M_Yard_state_of T.cy hr.mn wC (pv 0) (aa (pv 2) aj)))))),?_⟩
 have yd:=Y.pic.yard
 cases dd <;> try cases e
 ·exact ⟨_,rfl,rfl,_,rfl,ifT (by decide +kernel) ⟨_,rfl,y,_,_,rfl,yd,noY,_,rfl,y,a,b,hs,_,_,rfl,rfl,⟨_,rfl,rfl⟩,Y,k⟩⟩
 ·exact ⟨_,rfl,rfl,_,rfl,ifF (by decide +kernel) ⟨_,rfl,rfl,_,rfl,ifT (by decide +kernel) ⟨_,rfl,y,_,_,rfl,yd,noY,_,rfl,y,a,b,hs,_,_,rfl,rfl,⟨_,rfl,rfl⟩,Y,k⟩⟩⟩
 ·exact ⟨_,rfl,rfl,_,rfl,ifF (by decide +kernel) ⟨_,rfl,rfl,_,rfl,ifF (by decide +kernel) ⟨_,rfl,y,_,_,rfl,yd,noY,_,rfl,y,a,b,hs,_,_,rfl,rfl,⟨_,rfl,rfl⟩,Y,k⟩⟩⟩
theorem jI:wb ["yard","deed","name"] ["yard","deed"] (vZ sDo):=L2.wy rfl rfl rfl rfl (by decide +kernel)
theorem ok_do {f:Addr} {fd:FuncData} (F:Fun K "do_deed" "do_deed" sDo f fd) (T':Txt K mg Z) (M_Yard_keep:MD P w K mg base (CXX P w K R) Z.Y "keep" ["self","who","show","many","span"] 5 (wI Z dKeep 4)) (M_Yard_take:MD P w K mg base (CXX P w K R) Z.Y "take" ["self","number"] 6 (wI Z dTake 1)) (M_Yard_back:MD P w K mg base (CXX P w K R) Z.Y "back" ["self","number"] 6 (wI Z dBack 1))
  (M_Yard_part:MD P w K mg base (CXX P w K R) Z.Y "part" ["self","number","many"] 6 (wI Z dPart 2)) (M_Yard_move:MD P w K mg base (CXX P w K R) Z.Y "move" ["self","number","show"] 6 (wI Z dMove 2)) (M_Yard_pass_on:MD P w K mg base (CXX P w K R) Z.Y "pass_on" ["self","number","who"] 6 (wI Z dPass 2)) (M_Yard_clock:MD P w K mg base (CXX P w K R) Z.Y "clock" ["self","time"] 6 (wI Z dClock 1))
  (F_ask:FD P w K mg base (CXX P w K R) "ask" ["yard","name","number"] 6 (spAsk Z)) : we P w K mg base (CXX P w K R) 7 f fd ["yard","deed"] (spDo Z):=by
 have T:=T'
 refine okX F jI (fun vs H Q E h=>?_) (fun cdv A outer s H vs Q E hr h=>?_)
 ·obtain ⟨y,a,b,hs,x,dd,rfl,_⟩:=h
  rfl
 obtain ⟨y,a,b,hs,x,dd,rfl,hx,Y,k⟩:=h
 refine ⟨_,    (ae
 (aC (i:=2) jI.nd rfl (Or.inl rfl) (ax aK (pv 1) ag (fun _ _=>rfl)))
 (ae
 (aH (au bb (pv 2) ay (wa _))
 (ak
 (aA (bz M_Yard_keep T.cy hr.mn wC (pv 0) (aa (ax aK (pv 1) ag (fun _ _=>rfl)) (aa (ax aK (pv 1) ag (fun _ _=>rfl)) (aa (ax aK (pv 1) ag (fun _ _=>rfl)) (aa (ax aK (pv 1) ag (fun _ _=>rfl)) aj)))))))
 aB)
 (ae
 (aH (au bb (pv 2) ay (wa _))
 (ak
 (aA (bz M_Yard_take T.cy hr.mn wC (pv 0) (aa (ax aK (pv 1) ag (fun _ _=>rfl)) aj))))
 aB)
 (ae
 (aH (au bb (pv 2) ay (wa _))
 (ak
 (aA (bz M_Yard_back T.cy hr.mn wC (pv 0) (aa (ax aK (pv 1) ag (fun _ _=>rfl)) aj))))
 aB)
 (ae
 (aH (au bb (pv 2) ay (wa _))
 (ak
 (aA (bz M_Yard_part T.cy hr.mn wC (pv 0) (aa (ax aK (pv 1) ag (fun _ _=>rfl)) (aa (ax aK (pv 1) ag (fun _ _=>rfl)) aj)))))
 aB)
 (ae
 (aH (au bb (pv 2) ay (wa _))
 (ak
 (aA (bz M_Yard_move T.cy hr.mn wC (pv 0) (aa (ax aK (pv 1) ag (fun _ _=>rfl)) (aa (ax aK (pv 1) ag (fun _ _=>rfl)) aj)))))
 aB)
 (ae
 (aH (au bb (pv 2) ay (wa _))
 (ak
 (aA (bz M_Yard_pass_on T.cy hr.mn wC (pv 0) (aa (ax aK (pv 1) ag (fun _ _=>rfl)) (aa (ax aK (pv 1) ag (fun _ _=>rfl)) aj)))))
 aB)
 (ae
 (aH (au bb (pv 2) ay (wa _))
 (ak
 (aA (bz M_Yard_clock T.cy hr.mn wC (pv 0) (aa (ax aK (pv 1) ag (fun _ _=>rfl)) aj))))
 aB)
 (ak
 (aA (h9 F_ask hr.mn rfl wC (aa (pv 0) (aa (pv 2) (aa (ax aK (pv 1) ag (fun _ _=>rfl)) aj)))))))))))))),?_⟩
 have yd:=Y.pic.yard
 have no:∀ {u v:Str} {A B:Prop},¬ u=v→B→if decide (V.str u=V.str v)=true then A else B:=fun {u v A B} h q=>ifF (Js fun z=>h (by injection z)) q
 have yes:∀ {u:Str} {A B:Prop},A→if decide (V.str u=V.str u)=true then A else B:=fun {u A B} q=>ifT (Je rfl) q
 cases dd with
 | keep c1 c2 c3 c4 =>
  refine ⟨_,rfl,x,_,_,_,rfl,rfl,SqT.of hx,rfl,_,rfl,rfl,_,rfl,yes ?_⟩
  exact ⟨_,rfl,y,_,_,rfl,yd,noY,_,rfl,x,_,_,_,rfl,rfl,SqT.of hx,rfl,_,rfl,x,_,_,_,rfl,rfl,SqT.of hx,rfl,_,rfl,x,_,_,_,rfl,rfl,SqT.of hx,rfl,_,rfl,x,_,_,_,rfl,rfl,SqT.of hx,rfl,y,a,b,hs,_,_,rfl,rfl,⟨_,_,_,_,rfl,rfl⟩,Y,k⟩
 | take n =>
  refine ⟨_,rfl,x,_,_,_,rfl,rfl,SqT.of hx,rfl,_,rfl,rfl,_,rfl,no (by decide +kernel) ⟨_,rfl,rfl,_,rfl,yes ?_⟩⟩
  exact ⟨_,rfl,y,_,_,rfl,yd,noY,_,rfl,x,_,_,_,rfl,rfl,SqT.of hx,rfl,y,a,b,hs,_,_,rfl,rfl,⟨_,rfl,rfl⟩,Y,k⟩
 | back n =>
  refine ⟨_,rfl,x,_,_,_,rfl,rfl,SqT.of hx,rfl,_,rfl,rfl,_,rfl,no (by decide +kernel) ⟨_,rfl,rfl,_,rfl,no (by decide +kernel) ⟨_,rfl,rfl,_,rfl,yes ?_⟩⟩⟩
  exact ⟨_,rfl,y,_,_,rfl,yd,noY,_,rfl,x,_,_,_,rfl,rfl,SqT.of hx,rfl,y,a,b,hs,_,_,rfl,rfl,⟨_,rfl,rfl⟩,Y,k⟩
 | part n m =>
  refine ⟨_,rfl,x,_,_,_,rfl,rfl,SqT.of hx,rfl,_,rfl,rfl,_,rfl,no (by decide +kernel) ⟨_,rfl,rfl,_,rfl,no (by decide +kernel) ⟨_,rfl,rfl,_,rfl,no (by decide +kernel) ⟨_,rfl,rfl,_,rfl,yes ?_⟩⟩⟩⟩
  exact ⟨_,rfl,y,_,_,rfl,yd,noY,_,rfl,x,_,_,_,rfl,rfl,SqT.of hx,rfl,_,rfl,x,_,_,_,rfl,rfl,SqT.of hx,rfl,y,a,b,hs,_,_,rfl,rfl,⟨_,_,rfl,rfl⟩,Y,k⟩
 | move n m =>
  refine ⟨_,rfl,x,_,_,_,rfl,rfl,SqT.of hx,rfl,_,rfl,rfl,_,rfl,no (by decide +kernel) ⟨_,rfl,rfl,_,rfl,no (by decide +kernel) ⟨_,rfl,rfl,_,rfl,no (by decide +kernel) ⟨_,rfl,rfl,_,rfl,no (by decide +kernel) ⟨_,rfl,rfl,_,rfl,yes ?_⟩⟩⟩⟩⟩
  exact ⟨_,rfl,y,_,_,rfl,yd,noY,_,rfl,x,_,_,_,rfl,rfl,SqT.of hx,rfl,_,rfl,x,_,_,_,rfl,rfl,SqT.of hx,rfl,y,a,b,hs,_,_,rfl,rfl,⟨_,_,rfl,rfl⟩,Y,k⟩
 | pass n m =>
  refine ⟨_,rfl,x,_,_,_,rfl,rfl,SqT.of hx,rfl,_,rfl,rfl,_,rfl,no (by decide +kernel) ⟨_,rfl,rfl,_,rfl,no (by decide +kernel) ⟨_,rfl,rfl,_,rfl,no (by decide +kernel) ⟨_,rfl,rfl,_,rfl,no (by decide +kernel) ⟨_,rfl,rfl,_,rfl,no (by decide +kernel) ⟨_,rfl,rfl,_,rfl,yes ?_⟩⟩⟩⟩⟩⟩
  exact ⟨_,rfl,y,_,_,rfl,yd,noY,_,rfl,x,_,_,_,rfl,rfl,SqT.of hx,rfl,_,rfl,x,_,_,_,rfl,rfl,SqT.of hx,rfl,y,a,b,hs,_,_,rfl,rfl,⟨_,_,rfl,rfl⟩,Y,k⟩
 | clock n =>
  refine ⟨_,rfl,x,_,_,_,rfl,rfl,SqT.of hx,rfl,_,rfl,rfl,_,rfl,no (by decide +kernel) ⟨_,rfl,rfl,_,rfl,no (by decide +kernel) ⟨_,rfl,rfl,_,rfl,no (by decide +kernel) ⟨_,rfl,rfl,_,rfl,no (by decide +kernel) ⟨_,rfl,rfl,_,rfl,no (by decide +kernel) ⟨_,rfl,rfl,_,rfl,no (by decide +kernel) ⟨_,rfl,rfl,_,rfl,yes ?_⟩⟩⟩⟩⟩⟩⟩
  exact ⟨_,rfl,y,_,_,rfl,yd,noY,_,rfl,x,_,_,_,rfl,rfl,SqT.of hx,rfl,y,a,b,hs,_,_,rfl,rfl,⟨_,rfl,rfl⟩,Y,k⟩
 | free n =>
  refine ⟨_,rfl,x,_,_,_,rfl,rfl,SqT.of hx,rfl,_,rfl,rfl,_,rfl,no (by decide +kernel) ⟨_,rfl,rfl,_,rfl,no (by decide +kernel) ⟨_,rfl,rfl,_,rfl,no (by decide +kernel) ⟨_,rfl,rfl,_,rfl,no (by decide +kernel) ⟨_,rfl,rfl,_,rfl,no (by decide +kernel) ⟨_,rfl,rfl,_,rfl,no (by decide +kernel) ⟨_,rfl,rfl,_,rfl,no (by decide +kernel) ?_⟩⟩⟩⟩⟩⟩⟩
  exact ⟨_,rfl,_,rfl,_,rfl,x,_,_,_,rfl,rfl,SqT.of hx,rfl,y,a,b,hs,_,_,.free n,rfl,rfl,Y,k⟩
 | row n =>
  refine ⟨_,rfl,x,_,_,_,rfl,rfl,SqT.of hx,rfl,_,rfl,rfl,_,rfl,no (by decide +kernel) ⟨_,rfl,rfl,_,rfl,no (by decide +kernel) ⟨_,rfl,rfl,_,rfl,no (by decide +kernel) ⟨_,rfl,rfl,_,rfl,no (by decide +kernel) ⟨_,rfl,rfl,_,rfl,no (by decide +kernel) ⟨_,rfl,rfl,_,rfl,no (by decide +kernel) ⟨_,rfl,rfl,_,rfl,no (by decide +kernel) ?_⟩⟩⟩⟩⟩⟩⟩
  exact ⟨_,rfl,_,rfl,_,rfl,x,_,_,_,rfl,rfl,SqT.of hx,rfl,y,a,b,hs,_,_,.row n,rfl,rfl,Y,k⟩
 | state n =>
  refine ⟨_,rfl,x,_,_,_,rfl,rfl,SqT.of hx,rfl,_,rfl,rfl,_,rfl,no (by decide +kernel) ⟨_,rfl,rfl,_,rfl,no (by decide +kernel) ⟨_,rfl,rfl,_,rfl,no (by decide +kernel) ⟨_,rfl,rfl,_,rfl,no (by decide +kernel) ⟨_,rfl,rfl,_,rfl,no (by decide +kernel) ⟨_,rfl,rfl,_,rfl,no (by decide +kernel) ⟨_,rfl,rfl,_,rfl,no (by decide +kernel) ?_⟩⟩⟩⟩⟩⟩⟩
  exact ⟨_,rfl,_,rfl,_,rfl,x,_,_,_,rfl,rfl,SqT.of hx,rfl,y,a,b,hs,_,_,.state n,rfl,rfl,Y,k⟩
theorem kI:wb ["yard","deed","refusal"] ["yard","deed"] (vZ zu):=L2.wy rfl rfl rfl rfl (by decide +kernel)
theorem qk {f:Addr} {fd:FuncData} (F:Fun K "answer" "answer" zu f fd) (T':Txt K mg Z) (er:ErrR K R) (mR:mg "Refusal" = some (.ref R)) (F_do_deed:FD P w K mg base (CXX P w K R) "do_deed" ["yard","deed"] 7 (spDo Z)) : we P w K mg base CX0 8 f fd ["yard","deed"] (yK Z):=by
 have T:=T'
 refine F.ok kI (fun vs H Q E h=>?_) (fun cdv A outer s H vs Q E hr h=>?_)
 ·obtain ⟨y,a,b,hs,x,dd,rfl,_⟩:=h
  rfl
 obtain ⟨y,a,b,hs,x,dd,rfl,hx,Y,k⟩:=h
 obtain ⟨f1,fd1,m1,k1,b1,G1⟩:=F_do_deed
 refine ⟨_,ak (vE (R:=R) er G1 hr rfl m1 k1 b1 rfl (.inl rfl) rfl (.inl rfl) rfl mR rfl kI.nd rfl rfl rfl),?_⟩
 refine ⟨_,rfl,_,rfl,y,a,b,hs,x,dd,rfl,hx,Y,k,fun t e cls dx H' g hn hd=>⟨dx,t,rfl,hd,?_⟩⟩
 unfold DealY at k
 rw [e] at k
 exact k H' a hs _ ((wk.refl Y.pic).same g) Y.here aN bA
end
end Kp
namespace Kp
open PySem L2
structure Making (Z:Cs) (H:Hp) (rooms:List Int) (acc:Addr) (i:Nat) (H2:Hp) (a:YAd) : Prop where
 same:wm H H2
 at_:H2 acc=some (.lst (rfq a.p (List.range i)))
 shw:∀ j,j<i→H2 (a.p j)=some (.ins Z.S (a.pd j) (wG (rooms.getD j 0) (a.c (2*j+2)) (a.c (2*j+3))))
 lst:∀ u,2≤u→u<2*i+2→H2 (a.c u)=some (.lst [])∧H (a.c u)=none∧a.c u≠acc
 new:∀ j,j<i→H (a.p j)=none
 ci:∀ u v,2≤u→u<2*i+2→2≤v→v<2*i+2→a.c u=a.c v→u=v
 pi:∀ j k,j<i→k<i→a.p j=a.p k→j=k
def zv (Z:Cs) : Sp:=fun vs H Q _=>∃ (y d r:Addr) (rooms:List Int),vs=[.ref y,.ref r]∧H y=some (.ins Z.Y d [])∧H r=some (.lst (rooms.map V.int))∧rooms.length≤1000 ∧
 ∀ (H':Hp) (a:YAd),Yd Z H' y a (vY.begun rooms) (fun _=>[])→(∀ c o,H c=some o→c≠y→H' c=some o)→(∀ x∈wF y a rooms.length 0,x=y∨H x=none)→Q .non H'
structure yL (Z:Cs) (H0:Hp) (y acc:Addr) (H:Hp) (a:YAd) (hr:Nat→List Nat) (b:vY) (ds:List Dt) (xs:List V) : Prop where
 pic:Yd Z H y a b hr
 ok:b.Ok
 here:wq b hr
 same:wm H0 H
 foot:∀ x∈wF y a b.rooms.length b.all.length,H0 x=none
 new:H0 acc=none
 out:acc∉wF y a b.rooms.length b.all.length
 at_:H acc=some (.lst xs)
 reps:wt (acc::wF y a b.rooms.length b.all.length) H ds xs
theorem yL.step {Z:Cs} {H0:Hp} {y acc:Addr} {H H':Hp} {a a':YAd} {hr hr':Nat→List Nat} {b:vY} {ds:List Dt} {xs:List V} {dd:wd} {v:V} (G:yL Z H0 y acc H a hr b ds xs) (A:wk Z H y a b H' a' (b.done dd).1 hr') (O:wq (b.done dd).1 hr') (r:Rep (wF y a' (b.done dd).1.rooms.length (b.done dd).1.all.length) H' (b.done dd).2 v) (f:yC H v) :
  H' acc=some (.lst xs)∧yL Z H0 y acc (upd H' acc (.lst (xs++[v]))) a' hr' (b.done dd).1 (ds++[(b.done dd).2]) (xs++[v]):=by
 have h1:=A.keep _ _ G.at_ G.out
 have nf':=A.nout G.out G.at_
 have s':wm H0 H':=fun x o h=>A.keep _ _ (G.same x o h) fun m=>by rw [G.foot x m] at h;cases h
 have nv:v≠.ref acc:=fun e=>by have:=f acc e;rw [G.at_] at this;cases this
 refine ⟨h1,A.pic.yV nf',(di G.ok dd).ok,O,bx s' G.new _,fun x m=>?_,G.new,nf',af,?_⟩
 ·rcases A.ext x m with z | z
  ·exact G.foot x z
  ·exact G.same.free z
 ·have kp:wH (acc::wF y a' (b.done dd).1.rooms.length (b.done dd).1.all.length) H' (upd H' acc (.lst (xs++[v]))):=wH.refl.put (.inl Jb) _
  refine wt.snoc ((r.top h1 (my b dd) nv).step kp Ext.refl) ((G.reps.step A.keep.more fun x m=>?_).step kp Ext.refl)
  rcases List.mem_cons.mp m with e | e
  ·exact .inl (by rw [e];exact Jb)
  ·exact (A.ext x e).imp (Jd _) id
def yM:Sp:=fun vs H Q _=>∃ (r l:Addr) (rooms:List Int) (ps:List Addr) (dds:List wd),vs=[.ref r,.ref l]∧H r=some (.lst (rooms.map V.int))∧H l=some (.lst (ps.map V.ref))∧Each (fun p dd=>H p=some (.tup dd.vs)) ps dds ∧
 rooms.length≤1000∧dds.length≤500∧∀ H' v,wm H H'→Rep [] H' (.lst ((vY.begun rooms).run dds).2) v→Q v H'
theorem je (b:vY) (O:b.Ok) : ∀ ds:List wd,(b.run ds).1.Ok∧(b.run ds).1.all.length≤b.all.length+ds.length:=by
 intro ds
 induction ds generalizing b with
 | nil=>exact ⟨O,Jm _⟩
 | cons d ds ih =>
  have S:=di O d
  obtain ⟨h1,h2⟩:=ih (b.done d).1 S.ok
  have:=S.grow
  rw [cG]
  exact ⟨h1,by rw [Jy];show ((b.done d).1.run ds).1.all.length≤_;omega⟩
section
variable {P:Program} {w:World} {K:Ay} {mg:Str→Option Value} {base:Heap} {Z:Cs} {R:Addr}
theorem nX (rooms:List Int) (s:Nat) : (vY.begun rooms).rows.getD s []=[]:=by
 show (rooms.map fun _=>([] : List Nat)).getD s []=[]
 rw [Jj,Jw]
 cases rooms[s]? <;> rfl
theorem jJ (rooms:List Int) : wq (vY.begun rooms) (fun _=>[]):=⟨fun _=>List.nodup_nil,fun j i=>⟨(fun h=>by cases h),fun h=>absurd h.1 (Y7 _)⟩⟩
theorem sc_Yard___init__:wb ["self","rooms"] ["self","rooms"] (vZ sYi):=L2.wy rfl rfl rfl rfl (by decide +kernel)
theorem tK {f:Addr} {fd:FuncData} (F:Fun K "__init__" "Yard.__init__" sYi f fd) (T':Txt K mg Z) (K_Show:KD P w K mg base "Show" Z.S ["self","room"] 1 (Al Z)) : we P w K mg base CX0 3 f fd ["self","rooms"] (zv Z):=by
 have T:=T'
 refine F.ok sc_Yard___init__ (fun vs H Q E h=>?_) (fun cdv A outer s H vs Q E hr h=>?_)
 ·obtain ⟨y,d,r,rooms,rfl,_⟩:=h
  rfl
 obtain ⟨y,d,r,rooms,rfl,hy,hr',hl,k⟩:=h
 refine ⟨_,    (ae
 (bH (pv 0) (cj ["room"] [] [] rfl (bC (pv 1)) (fun _ _ _ _ _ _=>aO (i:=0) (show List.Nodup ((["room"] : List Str)++([] : List Str)) from by decide +kernel) rfl (Or.inl rfl)) (fun _ _ _ _ _ _=>eC) (fun _ _ _ _ _ _=>(oC K_Show hr.mn rfl (aa (pv 0) aj))) .nil) rfl)
 (ae
 (bH (pv 0) (a0 aj) rfl)
 (ak
 (bH (pv 0) ag rfl)))),?_⟩
 refine ⟨_,rfl,r,rfl,⟨_,SqL.of hr'⟩,fun acc hacc=>?_⟩
 have M0:Making Z H rooms acc 0 (upd H acc (.lst [])) ⟨0,fun _=>0,fun _=>0,fun _=>0,fun _=>0,fun _=>0⟩ :=
  ⟨ai hacc _,af,(fun j h=>absurd h (Y7 _)),(fun u h1 h2=>by omega),(fun j h=>absurd h (Y7 _)),(fun u v h1 h2=>by omega),(fun j k h=>absurd h (Y7 _))⟩
 refine bT (K:=K) (a:=r) (xs:=rooms.map V.int) (fun i σ H2=>∃ (v:Option V) (a:YAd),σ=[v]∧Making Z H rooms acc i H2 a) ⟨none,_,rfl,M0⟩ (fun i σ H2 _ ⟨_,_,_,M⟩=>SqL.of (M.same _ _ hr')) ?_ ?_
 ·rintro i x σ H2 N hN hi ⟨v,a,rfl,M⟩
  obtain ⟨room,hroom,rfl⟩:=oF hi
  have hil:=(Jg.mp hroom).1
  have eroom:rooms.getD i 0=room:=by rw [Jj,hroom,Yi]
  refine ⟨_,rfl,fun q dq nq ndq ne=>?_⟩
  have g1:wm H2 (upd (upd H2 dq (.own q)) q (.ins Z.S dq [])):=fun c o h=>by
   rw [ao (aE h nq),ao (aE h ndq)]
   exact h
  refine ⟨q,dq,room,rfl,af,fun h rr nh nr nhr=>⟨rfl,?_⟩⟩
  have nqh:q≠h:=fun e=>by rw [← e,af] at nh;cases nh
  have nqr:q≠rr:=fun e=>by rw [← e,af] at nr;cases nr
  have nh2:=g1.free nh
  have nr2:=g1.free nr
  have hq3:(upd (upd (upd (upd (upd H2 dq (.own q)) q (.ins Z.S dq [])) h (.lst [])) rr (.lst [])) q (.ins Z.S dq (wG room h rr))) q=some (.ins Z.S dq (wG room h rr)):=af
  have hh3:(upd (upd (upd (upd (upd H2 dq (.own q)) q (.ins Z.S dq [])) h (.lst [])) rr (.lst [])) q (.ins Z.S dq (wG room h rr))) h=some (.lst []):=by rw [ao nqh.symm,ao nhr,af]
  have hr3:(upd (upd (upd (upd (upd H2 dq (.own q)) q (.ins Z.S dq [])) h (.lst [])) rr (.lst [])) q (.ins Z.S dq (wG room h rr))) rr=some (.lst []):=by rw [ao nqr.symm,af]
  have g3:wm H2 (upd (upd (upd (upd (upd H2 dq (.own q)) q (.ins Z.S dq [])) h (.lst [])) rr (.lst [])) q (.ins Z.S dq (wG room h rr))):=fun c o z=>by
   rw [ao (aE z nq),ao (aE z nr2),ao (aE z nh2)]
   exact g1 _ _ z
  generalize upd (upd (upd (upd (upd H2 dq (.own q)) q (.ins Z.S dq [])) h (.lst [])) rr (.lst [])) q (.ins Z.S dq (wG room h rr))=H3 at hq3 hh3 hr3 g3
  have ha:=M.at_
  have nhacc:h≠acc:=fun e=>by rw [e,ha] at nh2;cases nh2
  have nracc:rr≠acc:=fun e=>by rw [e,ha] at nr2;cases nr2
  have nqacc:q≠acc:=fun e=>by rw [e,ha] at nq;cases nq
  have nh0:=M.same.free nh2
  have nr0:=M.same.free nr2
  have nq0:=M.same.free nq
  refine ⟨_,g3 _ _ ha,big (by rw [bR,Yh];omega),hN _ _ ⟨_,{ a with p:=fun k=>if k=i then q else a.p k,pd:=fun k=>if k=i then dq else a.pd k,c:=fun u=>if u=2*i+2 then h else if u=2*i+3 then rr else a.c u },rfl,?_⟩⟩
  have oldc:∀ u,2≤u→u<2*i+2→a.c u≠h∧a.c u≠rr:=fun u h1 h2=>by
   obtain ⟨z,_⟩:=M.lst u h1 h2
   exact ⟨aE z nh2,aE z nr2⟩
  have oldp:∀ j,j<i→a.p j≠q:=fun j hj=>aE (M.shw j hj) nq
  have cc:∀ u,u<2*i+2→(if u=2*i+2 then h else if u=2*i+3 then rr else a.c u)=a.c u:=fun u hu=>by rw [J0 (by omega),J0 (by omega)]
  have c2:(if 2*i+2=2*i+2 then h else if 2*i+2=2*i+3 then rr else a.c (2*i+2))=h:=J3 rfl
  have c3:(if 2*i+3=2*i+2 then h else if 2*i+3=2*i+3 then rr else a.c (2*i+3))=rr:=by rw [J0 (by omega),J3 rfl]
  refine ⟨bx (M.same.trans g3) hacc _,?_,fun j hj=>?_,fun u h1 h2=>?_,fun j hj=>?_,fun u v h1 h2 h3 h4 e=>?_,fun j k hj hk e=>?_⟩
  ·rw [af,List.range_succ]
   congr 2
   unfold rfq
   rw [Jz]
   congr 1
   ·exact List.map_congr_left fun k hk=>by
     show V.ref (a.p k)=V.ref (if k=i then q else a.p k)
     rw [J0 (by have:=Y3.mp hk;omega)]
   ·show [V.ref q]=[V.ref (if i=i then q else a.p i)]
    rw [J3 rfl]
  ·show upd H3 acc _ (if j=i then q else a.p j)=some (.ins Z.S (if j=i then dq else a.pd j) (wG (rooms.getD j 0) (if 2*j+2=2*i+2 then h else if 2*j+2=2*i+3 then rr else a.c (2*j+2)) (if 2*j+3=2*i+2 then h else if 2*j+3=2*i+3 then rr else a.c (2*j+3))))
   by_cases e:j=i
   ·subst e
    rw [J3 rfl,J3 rfl,c2,c3,ao nqacc,eroom]
    exact hq3
   ·have hj':j<i:=by omega
    rw [J0 e,J0 e,cc _ (by omega),cc _ (by omega)]
    have z:=M.shw j hj'
    rw [ao (bS z ha (by intro z;cases z))]
    exact g3 _ _ z
  ·show upd H3 acc _ (if u=2*i+2 then h else if u=2*i+3 then rr else a.c u)=some (.lst [])∧H (if u=2*i+2 then h else if u=2*i+3 then rr else a.c u)=none∧(if u=2*i+2 then h else if u=2*i+3 then rr else a.c u)≠acc
   by_cases e:u=2*i+2
   ·rw [J3 e,ao nhacc]
    exact ⟨hh3,nh0,nhacc⟩
   ·rw [J0 e]
    by_cases e2:u=2*i+3
    ·rw [J3 e2,ao nracc]
     exact ⟨hr3,nr0,nracc⟩
    ·rw [J0 e2]
     obtain ⟨z1,z2,z3⟩:=M.lst u h1 (by omega)
     rw [ao z3]
     exact ⟨g3 _ _ z1,z2,z3⟩
  ·show H (if j=i then q else a.p j)=none
   by_cases e:j=i
   ·rw [J3 e];exact nq0
   ·rw [J0 e];exact M.new j (by omega)
  ·have e:(if u=2*i+2 then h else if u=2*i+3 then rr else a.c u)=(if v=2*i+2 then h else if v=2*i+3 then rr else a.c v):=e
   by_cases u2:u=2*i+2
   ·rw [J3 u2] at e
    by_cases v2:v=2*i+2
    ·omega
    ·rw [J0 v2] at e
     by_cases v3:v=2*i+3
     ·rw [J3 v3] at e;exact absurd e nhr
     ·rw [J0 v3] at e;exact absurd e.symm (oldc v h3 (by omega)).1
   ·rw [J0 u2] at e
    by_cases u3:u=2*i+3
    ·rw [J3 u3] at e
     by_cases v2:v=2*i+2
     ·rw [J3 v2] at e;exact absurd e.symm nhr
     ·rw [J0 v2] at e
      by_cases v3:v=2*i+3
      ·omega
      ·rw [J0 v3] at e;exact absurd e.symm (oldc v h3 (by omega)).2
    ·rw [J0 u3] at e
     by_cases v2:v=2*i+2
     ·rw [J3 v2] at e;exact absurd e (oldc u h1 (by omega)).1
     ·rw [J0 v2] at e
      by_cases v3:v=2*i+3
      ·rw [J3 v3] at e;exact absurd e (oldc u h1 (by omega)).2
      ·rw [J0 v3] at e
       exact M.ci u v h1 (by omega) h3 (by omega) e
  ·have e:(if j=i then q else a.p j)=(if k=i then q else a.p k):=e
   by_cases j2:j=i
   ·rw [J3 j2] at e
    by_cases k2:k=i
    ·omega
    ·rw [J0 k2] at e;exact absurd e.symm (oldp k (by omega))
   ·rw [J0 j2] at e
    by_cases k2:k=i
    ·rw [J3 k2] at e;exact absurd e (oldp j (by omega))
    ·rw [J0 k2] at e
     exact M.pi j k (by omega) (by omega) e
 ·rintro σ H2 ⟨v,a,rfl,M⟩
  rw [J9] at M
  have ny:=aE hy hacc
  have hy2:=M.same _ _ hy
  refine ⟨_,rfl,y,_,d,_,rfl,hy2,T.cy,T.yh,(by show 0<1000;decide),(by show 0≤sizeLine;decide),fun kl hkl=>?_⟩
  have nyk:y≠kl:=fun e=>by rw [← e,af] at hkl;cases hkl
  have hkl2:H2 kl=none:=by rw [ao nyk.symm] at hkl;exact hkl
  have hkl0:=M.same.free hkl2
  refine ⟨_,rfl,y,_,d,_,rfl,(by rw [ao nyk];exact af),T.cy,T.yk,?_,_,rfl,y,_,d,_,rfl,af,T.cy,T.yn,?_,?_⟩
  ·(repeat (first | rw [aQ] | rw [aM (by decide +kernel)] | rw [aS] | rw [aT] | rw [aD (by decide +kernel)]))
   show 1<1000
   decide
  ·(repeat (first | rw [aQ] | rw [aM (by decide +kernel)] | rw [aS] | rw [aT] | rw [aD (by decide +kernel)]))
   show 2<1000
   decide
  rw [cS]
  have key:∀ b o,b≠y→b≠kl→H2 b=some o→(upd (upd (upd H2 y (.ins Z.Y d (wJ "shows" (.ref acc) []))) kl (.lst [])) y (.ins Z.Y d (wJ "now" (.int 0) (wJ "keepings" (.ref kl) (wJ "shows" (.ref acc) []))))) b=some o:=fun b o h1 h2 h3=>by
   rw [ao h1,ao h2,ao h1]
   exact h3
  have hk3:(upd (upd (upd H2 y (.ins Z.Y d (wJ "shows" (.ref acc) []))) kl (.lst [])) y (.ins Z.Y d (wJ "now" (.int 0) (wJ "keepings" (.ref kl) (wJ "shows" (.ref acc) []))))) kl=some (.lst []):=by rw [ao nyk.symm,af]
  have hy3:(upd (upd (upd H2 y (.ins Z.Y d (wJ "shows" (.ref acc) []))) kl (.lst [])) y (.ins Z.Y d (wJ "now" (.int 0) (wJ "keepings" (.ref kl) (wJ "shows" (.ref acc) []))))) y=some (.ins Z.Y d (wX acc kl 0)):=by
   rw [af]
   unfold wX
   (repeat (first | rw [aQ] | rw [aM (by decide +kernel)] | rw [aS] | rw [aT] | rw [aD (by decide +kernel)]))
  generalize upd (upd (upd H2 y (.ins Z.Y d (wJ "shows" (.ref acc) []))) kl (.lst [])) y (.ins Z.Y d (wJ "now" (.int 0) (wJ "keepings" (.ref kl) (wJ "shows" (.ref acc) []))))=H3 at key hk3 hy3
  have nacck:acc≠kl:=aE M.at_ hkl2
  have lk:∀ u,2≤u→u<2*rooms.length+2→a.c u≠kl:=fun u h1 h2=>aE (M.lst u h1 h2).1 hkl2
  have ly:∀ {u:Addr} {xs:List V},H2 u=some (.lst xs)→u≠y:=fun h=>bS h hy2 (by intro z;cases z)
  have c0:(if (0:Nat)=0 then acc else if (0:Nat)=1 then kl else a.c 0)=acc:=rfl
  have c1:(if (1:Nat)=0 then acc else if (1:Nat)=1 then kl else a.c 1)=kl:=rfl
  have cn:∀ u,2≤u→(if u=0 then acc else if u=1 then kl else a.c u)=a.c u:=fun u h=>by rw [J0 (by omega),J0 (by omega)]
  have hl3:∀ u,2≤u→u<2*rooms.length+2→H3 (a.c u)=some (.lst []):=fun u h1 h2=>key _ _ (ly (M.lst u h1 h2).1) (lk u h1 h2) (M.lst u h1 h2).1
  refine k H3 { a with dy:=d,c:=fun u=>if u=0 then acc else if u=1 then kl else a.c u } ⟨hy3,?_,?_,fun j hj=>?_,fun j hj=>?_,fun j hj=>?_,fun i hi=>absurd hi (Y7 _),fun u v hu hv e=>?_,fun j k hj hk e=>M.pi j k hj hk e,?_,T.nyk,T.nys,T.nsk⟩ (fun c o h hc=>key c o hc (aE h hkl0) (M.same _ _ h)) fun x m=>?_
  ·show H3 acc=some (.lst (rfq a.p (List.range rooms.length)))
   exact key _ _ (ly M.at_) nacck M.at_
  ·show H3 kl=some (.lst [])
   exact hk3
  ·have hj:j<rooms.length:=hj
   show H3 (a.p j)=some (.ins Z.S (a.pd j) (wG (rooms.getD j 0) (if 2*j+2=0 then acc else if 2*j+2=1 then kl else a.c (2*j+2)) (if 2*j+3=0 then acc else if 2*j+3=1 then kl else a.c (2*j+3))))
   rw [cn _ (by omega),cn _ (by omega)]
   have z:=M.shw j hj
   exact key _ _ (bS z hy2 fun q=>by injection q with q;exact T.nys q.symm) (aE z hkl2) z
  ·have hj:j<rooms.length:=hj
   show H3 (if 2*j+2=0 then acc else if 2*j+2=1 then kl else a.c (2*j+2))=some (.lst [])
   rw [cn _ (by omega)]
   exact hl3 _ (by omega) (by omega)
  ·have hj:j<rooms.length:=hj
   show H3 (if 2*j+3=0 then acc else if 2*j+3=1 then kl else a.c (2*j+3))=some (.lst (rfq a.q ((vY.begun rooms).rows.getD j [])))
   rw [cn _ (by omega),nX]
   exact hl3 _ (by omega) (by omega)
  ·have hu:u<2*rooms.length+2:=hu
   have hv:v<2*rooms.length+2:=hv
   have e:(if u=0 then acc else if u=1 then kl else a.c u)=(if v=0 then acc else if v=1 then kl else a.c v):=e
   have na:∀ u,2≤u→u<2*rooms.length+2→a.c u≠acc:=fun u h1 h2=>(M.lst u h1 h2).2.2
   by_cases u0:u=0
   ·rw [J3 u0] at e
    by_cases v0:v=0
    ·omega
    ·rw [J0 v0] at e
     by_cases v1:v=1
     ·rw [J3 v1] at e;exact absurd e nacck
     ·rw [J0 v1] at e;exact absurd e.symm (na v (by omega) hv)
   ·rw [J0 u0] at e
    by_cases u1:u=1
    ·rw [J3 u1] at e
     by_cases v0:v=0
     ·rw [J3 v0] at e;exact absurd e.symm nacck
     ·rw [J0 v0] at e
      by_cases v1:v=1
      ·omega
      ·rw [J0 v1] at e;exact absurd e.symm (lk v (by omega) hv)
    ·rw [J0 u1] at e
     by_cases v0:v=0
     ·rw [J3 v0] at e;exact absurd e (na u (by omega) hu)
     ·rw [J0 v0] at e
      by_cases v1:v=1
      ·rw [J3 v1] at e;exact absurd e (lk u (by omega) hu)
      ·rw [J0 v1] at e
       exact M.ci u v (by omega) hu (by omega) hv e
  ·show rooms.length=(rooms.map _).length
   rw [J9]
  ·rcases aW.mp m with rfl | ⟨u,hu,rfl⟩ | ⟨j,hj,rfl⟩ | ⟨i,hi,rfl⟩
   ·exact .inl rfl
   ·right
    show H (if u=0 then acc else if u=1 then kl else a.c u)=none
    by_cases u0:u=0
    ·rw [J3 u0];exact hacc
    ·rw [J0 u0]
     by_cases u1:u=1
     ·rw [J3 u1];exact hkl0
     ·rw [J0 u1];exact (M.lst u (by omega) hu).2.1
   ·exact .inr (M.new j hj)
   ·exact absurd hi (Y7 _)
theorem fo:wb ["rooms","deeds","yard","told","deed"] ["rooms","deeds"] (vZ yf):=L2.wy rfl rfl rfl rfl (by decide +kernel)
theorem nY {f:Addr} {fd:FuncData} (F:Fun K "answers" "answers" yf f fd) (T':Txt K mg Z) (K_Yard:KD P w K mg base "Yard" Z.Y ["self","rooms"] 3 (zv Z)) (F_answer:FD P w K mg base CX0 "answer" ["yard","deed"] 8 (yK Z)) : we P w K mg base CX0 9 f fd ["rooms","deeds"] yM:=by
 have T:=T'
 refine F.ok fo (fun vs H Q E h=>?_) (fun cdv A outer s H vs Q E hr h=>?_)
 ·obtain ⟨r,l,rooms,ps,dds,rfl,_⟩:=h
  rfl
 obtain ⟨r,l,rooms,ps,dds,rfl,hr',hl,he,hrl,hdl,k⟩:=h
 refine ⟨_,    (ae
 (aC (i:=2) fo.nd rfl (Or.inl rfl) (oC K_Yard hr.mn rfl (aa (pv 0) aj)))
 (ae
 (aC (i:=3) fo.nd rfl (Or.inl rfl) (a0 aj))
 (ae
 (bU PassesOwn.never rfl (bC (pv 1)) (aO (i:=4) fo.nd rfl (Or.inl rfl))
 (ak
 (aF (bP Jl Jq Jr aX (pv 3) (aa (h9 F_answer hr.mn rfl wg (aa (pv 2) (aa (pv 4) aj))) aj)))))
 (ak
 (aA (pv 3)))))),?_⟩
 refine ⟨_,rfl,fun y d ny nd ne=>?_⟩
 have g1:wm H (upd (upd H d (.own y)) y (.ins Z.Y d [])):=fun c o h=>by
  rw [ao (aE h ny),ao (aE h nd)]
  exact h
 refine ⟨y,d,r,rooms,rfl,af,g1 _ _ hr',hrl,fun H2 a p k2 fr=>⟨rfl,?_⟩⟩
 have g2:wm H H2:=fun c o h=>k2 c o (g1 _ _ h) (aE h ny)
 refine ⟨(by show 0≤sizeLine;decide),fun acc hacc=>?_⟩
 have gA:=ai hacc (.lst [])
 have G0:yL Z H y acc (upd H2 acc (.lst [])) a (fun _=>[]) (vY.begun rooms) [] [] :=
  ⟨p.same gA,cH rooms,jJ rooms,g2.trans gA,(fun x m=>(fr x m).elim (fun e=>by rw [e];exact ny) fun z=>g1.free z),g2.free hacc,p.new hacc,af,bD⟩
 have ple:ps.length=dds.length:=he.len
 refine ⟨_,rfl,l,rfl,⟨_,SqL.of (G0.same _ _ hl)⟩,bZ (K:=K) (a:=l) (xs:=ps.map V.ref) (fun i σ H3=>∃ (v:Option V) (a:YAd) (hs:Nat→List Nat) (xs:List V),σ=[some (.ref r),some (.ref l),some (.ref y),some (.ref acc),v]∧yL Z H y acc H3 a hs ((vY.begun rooms).run (dds.take i)).1 ((vY.begun rooms).run (dds.take i)).2 xs∧xs.length=i)
  ⟨none,a,_,[],rfl,G0,rfl⟩ (fun i σ H3 _ ⟨_,_,_,_,_,G,_⟩=>SqL.of (G.same _ _ hl)) ?_ ?_⟩
 ·rintro i x σ H3 hi ⟨v0,a3,hs3,xs,rfl,G,hxs⟩
  rw [Jw] at hi
  cases ei:ps[i]? with
  | none=>rw [ei] at hi;cases hi
  | some q =>
   rw [ei] at hi
   cases hi
   have hil:i<dds.length:=by rw [← ple];exact (Jg.mp ei).1
   have hq:=G.same _ _ (he.at_ i q dds[i] ei (Ja hil))
   have et:dds.take (i+1)=dds.take i++[dds[i]]:=bp (Ja hil)
   have hal:((vY.begun rooms).run (dds.take i)).1.all.length≤500:=by
    have:=(je (vY.begun rooms) (cH rooms) (dds.take i)).2
    rw [Y4] at this
    have:((vY.begun rooms).run (dds.take i)).1.all.length≤0+min i dds.length:=this
    omega
   refine ⟨_,rfl,.inl ⟨rfl,_,SqL.of G.at_⟩,_,rfl,_,rfl,y,a3,_,hs3,q,dds[i],rfl,hq,⟨G.pic,G.ok,G.here,hal⟩,fun H4 a4 hs4 w A4 O4 r4 f4=>?_⟩
   obtain ⟨h4,G2⟩:=G.step A4 O4 r4 f4
   refine ⟨acc,_,_,rfl,rfl,h4,big (by omega),some (.ref q),a4,hs4,xs++[w],rfl,?_,by rw [Jc,Jo,hxs]⟩
   rw [et,ek]
   exact G2
 ·rintro σ H3 ⟨v0,a3,hs3,xs,rfl,G,hxs⟩
  rw [J9,ple,Y8] at G
  refine ⟨_,rfl,k H3 _ G.same (fb (by simp) G.at_ (G.reps.step wH.refl fun x m=>?_))⟩
  cases m
end
end Kp
namespace L2
open PySem PySem.Spec PyProof.Rows
theorem ql {P:Program} {w:World} {K:Ay} {tg:Expr} (it:Addr) (lo:Int) (n:Nat) : Turn P w K tg (Itr lo n) [it] it (fun i h=>IsLongIter h it (lo+(i:Nat)*1) ((n:Int)-(i:Nat)) 1) where
 mem:=by simp
 obj:=fun i h st b hb=>by
  have e:b=it:=by simpa using hb
  subst e
  refine ⟨_,st,fun v z=>?_⟩
  have z':Data.fields _=Data.cell v:=z
  cases z'
 keep:=fun i h h' st k=>k it (by simp) _ st
 item:=by
  intro X hP hw hK hc i pins s σ H E I hf st hg
  subst hP hw hK
  obtain ⟨f0,f1,f2,f3,f4,f5⟩:=hf it (by simp)
  have W:=Walks.longrange (prog:=X.prog) (w:=X.w) (I.ok.hd hc) it lo 1 n
  refine W.item i s _ _ hg st fun v h' tk hv st' kk=>?_
  obtain ⟨t,rfl⟩:=hv
  have I1:Inv X pins σ H { s with heap:=h',toks:=tk }:=I.turned (fun b o hb e=>kk b o (by simpa using hb) e) f0 f1 f3 f4 f5
  refine ⟨_,rfl,qz (s:={ s with heap:=h',toks:=tk }) (n:="longrange_iterator") st' rfl rfl (by decide) ⟨.int (lo+i),H,I1,⟨t,?_⟩,⟨rfl,rfl⟩,st',fun b hb=>(hf b hb).1⟩⟩
  rw [Int.mul_one]
 done:=by
  intro X hP hw hK hc i pins s σ H E I hf st hg
  subst hP hw hK
  obtain ⟨f0,f1,f2,f3,f4,f5⟩:=hf it (by simp)
  exact wpAny_pyNext_long_end (I.ok.hd hc) st (by have:n≤i:=hg;omega) fun h' eb=>⟨rfl,I.turned (t':=s.toks) (fun b o hb e=>eb b o hb e) f0 f1 f3 f4 f5⟩
 self:=fun _ _ _ _ _ st h=>wpAny_pyIter_longiter st h
section
variable {X:Cx} {tg:Expr}
theorem qm {pins:List (Addr × Obj)} {σ:St} {H:Hp} {s:Shared} {R:It→Hp→Prop} {E:Value→Shared→Prop} {lo hi:Int} {t u v:Tok} {tk:Nat} (I:Inv X pins σ H s)
  (q:R (Itr lo (hi-lo).toNat) H) : wpAny (model X.prog X.w) X.A (pyIter (.ref s.heap.objs.size)) (PIE X pins σ tg R) E { s with heap:=s.heap.push { cls:=.type "range",data:=.fields #[.int lo t,.int hi u,.int 1 v] },toks:=tk }:=by
 have I1:Inv X pins σ H { s with heap:=s.heap.push { cls:=.type "range",data:=.fields #[.int lo t,.int hi u,.int 1 v] },toks:=tk }:=I.kept fun b o e=>Jh _ e
 have e1:lo+((0:Nat) : Int)*1=lo:=by simp
 have e2:(((hi-lo).toNat:Nat) : Int)-((0:Nat) : Int)=Builtin.Range.rangeSize lo hi 1:=by rw [rangeSize_one];split <;> omega
 cases c:Builtin.Range.small lo hi 1 with
 | true =>
  refine wpAny_pyIter_range (IsRange.new ..) c ?_
  refine ⟨(s.heap.push { cls:=.type "range",data:=.fields #[.int lo t,.int hi u,.int 1 v] }).objs.size,[(s.heap.push { cls:=.type "range",data:=.fields #[.int lo t,.int hi u,.int 1 v] }).objs.size],_,_,H,rfl,
   I1.kept (t':=tk) fun b o e=>Jh _ e,jg _ lo (hi-lo).toNat,?_,fun b hb=>?_,q⟩
  ·show IsRangeIter _ _ (lo+((0:Nat) : Int)*1) ((((hi-lo).toNat:Nat) : Int)-((0:Nat) : Int)) 1
   rw [e1,e2]
   exact Heap.get?_push_size _ rfl
  ·have e:b=(s.heap.push { cls:=.type "range",data:=.fields #[.int lo t,.int hi u,.int 1 v] }).objs.size:=by simpa using hb
   subst e
   exact I1.fpOk (Jm _) (I1.hok.fresh (Jm _))
 | false =>
  refine wpAny_pyIter_longrange (IsRange.new ..) c ?_
  refine ⟨(s.heap.push { cls:=.type "range",data:=.fields #[.int lo t,.int hi u,.int 1 v] }).objs.size,[(s.heap.push { cls:=.type "range",data:=.fields #[.int lo t,.int hi u,.int 1 v] }).objs.size],_,_,H,rfl,
   I1.kept (t':=tk) fun b o e=>Jh _ e,ql _ lo (hi-lo).toNat,?_,fun b hb=>?_,q⟩
  ·show IsLongIter _ _ (lo+((0:Nat) : Int)*1) ((((hi-lo).toNat:Nat) : Int)-((0:Nat) : Int)) 1
   rw [e1,e2]
   exact Heap.get?_push_size _ rfl
  ·have e:b=(s.heap.push { cls:=.type "range",data:=.fields #[.int lo t,.int hi u,.int 1 v] }).objs.size:=by simpa using hb
   subst e
   exact I1.fpOk (Jm _) (I1.hok.fresh (Jm _))
def iRng2L (ta:TA) : TI:=fun σ H R=>ta σ H fun vs H1=>∃ i j:Int,vs=[.int i,.int j]∧R (Itr i (j-i).toNat) H1
theorem jK {a b:Expr} {ta:TA} {p pos:Pos} (hg:Gl X "range") (hm:X.mg "range" = none) (ha:PA X [a,b] ta) (hs:starEach [a,b] X.env=[(false,eval a X.env),(false,eval b X.env)]:=by rfl) (hs2:starEach [b] X.env=[(false,eval b X.env)]:=by rfl) :
  PI X tg (.Call (.Name "range" p) [a,b] [] pos) (iRng2L ta):=by
 intro pins s σ H R I h
 refine Call_ (f9 I hg hm boot_range (PyProof.Rows.callWith_type1 (thn (ha pos pins s σ H _ I h) fun us s1 ⟨vs,H1,I1,r1,q1⟩=>?_) (by rw [hs,hs2]) (by rw [hs2];rfl)))
 obtain ⟨i,j,e,q⟩:=q1
 subst e
 cases r1 with
 | cons r rr =>
  cases rr with
  | cons r' rr =>
   cases rr
   obtain ⟨t,rfl⟩:=r
   obtain ⟨t',rfl⟩:=r'
   exact call_range_2 (qm I1 q)
end
end L2
namespace Kp
open PySem L2
theorem tL {b:vY} {n:Nat} {r:Rec} (h:n<b.all.length) (m:Nat) : vY.at { b with all:=b.all.set n r } m=if m=n then r else b.at m:=bI h
end Kp
namespace Kp
open PySem L2
abbrev Ac:Stmt:=inClass (top 23) 17
abbrev xT:Stmt:=top 29
def yp (n:Nat) (r:Rec) : List V:=[.int (n:Nat),.str r.who,.int (r.shw:Nat),.int r.many,.str r.st.txt,xr r.til]
def rowD (n:Nat) (r:Rec) : Dt:=.tup [.int (n:Nat),.str r.who,.int (r.shw:Nat),.int r.many,.str r.st.txt,x5 r.til]
def vY.up (b:vY) (k:Nat) : List Nat:=(List.range k).filter fun n=>decide ((b.at n).st≠.gone)
def vY.stands (b:vY) : List Dt:=(b.up b.all.length).map fun n=>rowD n (b.at n)
theorem nZ (b:vY) (k:Nat) : (b.up k).length≤k:=Ju (List.length_filter_le _ _) (by rw [Yh];exact Jm _)
theorem tM {b:vY} {k:Nat} (h:(b.at k).st≠.gone) : b.up (k+1)=b.up k++[k]:=by
 unfold vY.up
 rw [List.range_succ,List.filter_append,List.filter_cons_of_pos (by exact Je h),List.filter_nil]
theorem vc {b:vY} {k:Nat} (h:(b.at k).st=.gone) : b.up (k+1)=b.up k:=by
 unfold vY.up
 rw [List.range_succ,List.filter_append,List.filter_cons_of_neg (by rw [Jx];exact fun z=>z h),List.filter_nil,List.append_nil]
theorem tN {F:List Addr} {H:Hp} (n:Nat) (r:Rec) : wt F H [.int (n:Nat),.str r.who,.int (r.shw:Nat),.int r.many,.str r.st.txt,x5 r.til] (yp n r) :=
 aI bE (aI aN (aI bE (aI bE (aI aN (aI (lC _) bD)))))
def xm (H:Hp) (b:vY) (ns:List Nat) (qs:List Addr) : Prop:=Each (fun q n=>H q=some (.tup (yp n (b.at n)))) qs ns
theorem kJ {H:Hp} {b:vY} : ∀ {ns:List Nat} {qs:List Addr},xm H b ns qs→wt [] H (ns.map fun n=>rowD n (b.at n)) (qs.map V.ref)
 | [],[],_=>bD
 | [],q::qs,h=>absurd h.len (by simp)
 | n::ns,[],h=>absurd h.len (by simp)
 | n::ns,q::qs,h=>aI (dO (by simp) (h.at_ 0 q n rfl rfl) (tN n _)) (kJ ⟨by have:=h.len;simpa using this,fun i x y hx hy=>h.at_ (i+1) x y (by simpa using hx) (by simpa using hy)⟩)
theorem passX0 {P:Program} {w:World} {K:Ay} {R:Addr} {X:Cx} : Passes (CXX P w K R) X E0:=fun _ _ _ _ _ _ _ h=>by
 obtain ⟨a,C,dx,H',B,W,_,_,_,_,_,_,_,_,_,h⟩:=h
 exact h.elim
def Ao (Z:Cs) : Sp:=fun vs H Q _=>∃ (y:Addr) (a:YAd) (b:vY) (hr:Nat→List Nat) (n:Nat),vs=[.ref y,.int (n:Nat)]∧Yd Z H y a b hr∧n<b.all.length ∧
 ∀ z,H z=none→Q (.ref z) (upd H z (.tup [.str (b.at n).who,.int ((b.at n).shw:Nat),.int (b.at n).many,.str (b.at n).st.txt,xr (b.at n).til]))
def spLeft (Z:Cs) : Sp:=fun vs H Q _=>∃ (y:Addr) (a:YAd) (b:vY) (hr:Nat→List Nat),vs=[.ref y]∧Yd Z H y a b hr∧b.all.length≤600 ∧
 ∀ (H':Hp) (l:Addr) (qs:List Addr),wm H H'→H l=none→H' l=some (.lst (qs.map V.ref))→xm H' b (b.up b.all.length) qs→Q (.ref l) H'
def yN:Sp:=fun vs H Q _=>∃ (r l:Addr) (rooms:List Int) (ps:List Addr) (dds:List wd),vs=[.ref r,.ref l]∧H r=some (.lst (rooms.map V.int))∧H l=some (.lst (ps.map V.ref))∧Each (fun p dd=>H p=some (.tup dd.vs)) ps dds ∧
 rooms.length≤1000∧dds.length≤500∧∀ (H':Hp) (l:Addr) (qs:List Addr),wm H H'→H l=none→H' l=some (.lst (qs.map V.ref))→xm H' ((vY.begun rooms).run dds).1 (((vY.begun rooms).run dds).1.up ((vY.begun rooms).run dds).1.all.length) qs→Q (.ref l) H'
structure yO (Z:Cs) (H0:Hp) (y:Addr) (H:Hp) (a:YAd) (hr:Nat→List Nat) (b:vY) : Prop where
 pic:Yd Z H y a b hr
 ok:b.Ok
 here:wq b hr
 same:wm H0 H
 foot:∀ x∈wF y a b.rooms.length b.all.length,H0 x=none
theorem yO.step {Z:Cs} {H0:Hp} {y:Addr} {H H':Hp} {a a':YAd} {hr hr':Nat→List Nat} {b:vY} {dd:wd} (G:yO Z H0 y H a hr b) (A:wk Z H y a b H' a' (b.done dd).1 hr') (O:wq (b.done dd).1 hr') :
  yO Z H0 y H' a' hr' (b.done dd).1:=by
 have s':wm H0 H':=fun x o h=>A.keep _ _ (G.same x o h) fun m=>by rw [G.foot x m] at h;cases h
 refine ⟨A.pic,(di G.ok dd).ok,O,s',fun x m=>?_⟩
 rcases A.ext x m with z | z
 ·exact G.foot x z
 ·exact G.same.free z
section
variable {P:Program} {w:World} {K:Ay} {mg:Str→Option Value} {base:Heap} {Z:Cs} {R:Addr}
theorem n4 {f:Addr} {fd:FuncData} (F:Fun K "state_of" "Yard.state_of" yv f fd) (T':Txt K mg Z) (M_Yard_find_any:MD P w K mg base (CXX P w K R) Z.Y "find_any" ["self","number"] 4 (xG Z)) :
  we P w K mg base (CXX P w K R) 5 f fd ["self","number"] (Ao Z):=by
 have T:=T'
 refine okX F cB (fun vs H Q E h=>?_) (fun cdv A outer s H vs Q E hr h=>?_)
 ·obtain ⟨y,a,b,hs,n,rfl,_⟩:=h
  rfl
 obtain ⟨y,a,b,hs,n,rfl,p,hn,k⟩:=h
 refine ⟨_,    (ae
 (aC (i:=2) cB.nd rfl (Or.inl rfl) (bz M_Yard_find_any T.cy hr.mn wC (pv 0) (aa (pv 1) aj)))
 (ak
 (aA (bu (aa (aL (pv 2) rfl) (aa (aL (pv 2) rfl) (aa (aL (pv 2) rfl) (aa (aL (pv 2) rfl) (aa (aL (pv 2) rfl) aj))))))))),?_⟩
 have h1:b.wZ ((n:Nat) : Int)=true:=cA.mpr ⟨Int.natCast_nonneg _,by omega⟩
 refine ⟨_,rfl,y,_,_,rfl,p.yard,noY,_,rfl,y,a,b,hs,_,rfl,p,fun _=>?_,fun h2=>absurd (h1.symm.trans h2) (by decide)⟩
 rw [Jp]
 have hq:=p.kp n hn
 refine ⟨_,rfl,_,_,_,_,_,rfl,hq,T.ck,T.kw,u7 _ _,_,rfl,_,_,_,_,_,rfl,hq,T.ck,T.kh,iI _ _,_,rfl,_,_,_,_,_,rfl,hq,T.ck,T.km,fH _ _,_,rfl,_,_,_,_,_,rfl,hq,T.ck,T.ks,cL _ _,_,rfl,_,_,_,_,_,rfl,hq,T.ck,T.ku,lG _ _,(by show 5≤sizeLine;decide),fun z hz=>?_⟩
 exact k z hz
theorem fA:wb ["self"] ["self"] (vZ Ac):=L2.wy rfl rfl rfl rfl (by decide +kernel)
theorem tO {f:Addr} {fd:FuncData} (F:Fun K "left_standing" "Yard.left_standing" Ac f fd) (T':Txt K mg Z) (M_state2:MD P w K mg base (CXX P w K R) Z.Y "state_of" ["self","number"] 5 (Ao Z)) : we P w K mg base CX0 6 f fd ["self"] (spLeft Z):=by
 have T:=T'
 refine F.ok fA (fun vs H Q E h=>?_) (fun cdv A outer s H vs Q E hr h=>?_)
 ·obtain ⟨y,a,b,hs,rfl,_⟩:=h
  rfl
 obtain ⟨y,a,b,hs,rfl,p,hl,k⟩:=h
 refine ⟨_,    (ak
 (aA (cj ["keeping"] ["self"] [0] rfl (bC (aL (pv 0) rfl)) (fun _ _ _ _ _ _=>aO (i:=0) (show List.Nodup ((["keeping"] : List Str)++(["self"] : List Str)) from by decide +kernel) rfl (Or.inl rfl)) (fun _ _ _ _ _ _=>k9 (au fD (dm (K:=K) rfl (pv 0) rfl) (cz (v:=.str "gone") rfl T.GONE ⟨_,rfl⟩) (wa _))) (fun _ _ _ _ _ _=>(az (ug:OpR _ _ (rCatT K)) (bu (aa (dm (K:=K) rfl (pv 0) rfl) aj)) (bz M_state2 T.cy hr.mn passX0 (pv 1) (aa (dm (K:=K) rfl (pv 0) rfl) aj)))) (.cons rfl rfl (.inl rfl) .nil)))),?_⟩
 refine ⟨_,rfl,y,_,_,_,_,rfl,p.yard,T.cy,T.yk,fi _ _ _,_,rfl,⟨_,SqL.of p.keeps⟩,fun acc hacc=>?_⟩
 have gA:=ai hacc (.lst [])
 refine bT (K:=K) (a:=a.c 1) (xs:=rfq a.q (List.range b.all.length)) (fun i σ H2=>∃ (v:Option V) (qs:List Addr),σ=[v,some (.ref y)]∧wm H H2∧H2 acc=some (.lst (qs.map V.ref))∧xm H2 b (b.up i) qs) ⟨none,[],rfl,gA,af,Each.nil⟩ (fun i σ H2 _ ⟨_,_,_,g,_⟩=>SqL.of (g _ _ p.keeps)) ?_ ?_
 ·rintro i x σ H2 N hN hi ⟨v,qs,rfl,g,e,M⟩
  obtain ⟨n,hn,rfl⟩:=fj hi
  obtain ⟨hil,hin⟩:=Jg.mp hn
  rw [List.getElem_range] at hin
  subst hin
  rw [Yh] at hil
  have hq:=g _ _ (p.kp i hil)
  refine ⟨_,rfl,_,_,_,_,_,rfl,hq,T.ck,T.ks,cL _ _,rfl,_,rfl,?_⟩
  rw [show decide (V.str (b.at i).st.txt=V.str "gone")=decide ((b.at i).st=.gone) from jc _]
  refine wx (fun c=>?_) (fun c=>?_)
  ·have c:(b.at i).st≠.gone:=fun z=>by rw [Je z] at c;cases c
   refine ⟨_,rfl,_,_,_,_,_,rfl,hq,T.ck,T.kn,eU _ _,(by show 1≤sizeLine;decide),fun z hz=>?_⟩
   have gz:=ai hz (.tup [.int (i:Nat)])
   have hz3:(upd H2 z (.tup [.int (i:Nat)])) z=some (.tup [.int (i:Nat)]):=af
   generalize upd H2 z (.tup [.int (i:Nat)])=H3 at gz hz3
   have p3:=p.same (g.trans gz)
   refine ⟨_,rfl,y,_,_,rfl,p3.yard,noY,_,rfl,_,_,_,_,_,rfl,p3.kp i hil,T.ck,T.kn,eU _ _,y,a,b,hs,i,rfl,p3,hil,fun z2 hz2=>?_⟩
   have gy:=ai hz2 (.tup [.str (b.at i).who,.int ((b.at i).shw:Nat),.int (b.at i).many,.str (b.at i).st.txt,xr (b.at i).til])
   have hy3:(upd H3 z2 (.tup [.str (b.at i).who,.int ((b.at i).shw:Nat),.int (b.at i).many,.str (b.at i).st.txt,xr (b.at i).til])) z2=some (.tup [.str (b.at i).who,.int ((b.at i).shw:Nat),.int (b.at i).many,.str (b.at i).st.txt,xr (b.at i).til]):=af
   generalize upd H3 z2 (.tup [.str (b.at i).who,.int ((b.at i).shw:Nat),.int (b.at i).many,.str (b.at i).st.txt,xr (b.at i).til])=H4 at gy hy3
   refine ⟨z,z2,_,_,rfl,rfl,SqT.of (gy _ _ hz3),SqT.of hy3,(by simp),(by show 6≤sizeLine;decide),(fun q=>by cases q),fun _ z3 hz4=>?_⟩
   have gw:=ai hz4 (.tup (yp i (b.at i)))
   have hw:(upd H4 z3 (.tup (yp i (b.at i)))) z3=some (.tup (yp i (b.at i))):=af
   refine wz (H':=upd H4 z3 (.tup (yp i (b.at i)))) rfl ?_
   have g5:=gz.trans (gy.trans gw)
   have e5:=g5 _ _ e
   have nz:z3≠acc:=fun q=>by rw [q] at hz4;have:=(gz.trans gy) _ _ e;rw [this] at hz4;cases hz4
   generalize upd H4 z3 (.tup (yp i (b.at i)))=H5 at g5 hw e5
   have lq:qs.length=(b.up i).length:=M.len
   have:=nZ b i
   refine ⟨_,e5,big (by rw [J9];omega),hN _ _ ⟨_,qs++[z3],rfl,bx (g.trans g5) hacc _,by rw [af];simp,?_⟩⟩
   rw [tM c]
   refine Each.snoc (Each.mono M fun x _ n h=>?_) (by rw [ao nz];exact hw)
   have h5:=g5 _ _ h
   rw [ao (bS h5 e5 (by intro q;cases q))]
   exact h5
  ·have c:(b.at i).st=.gone:=by
    by_cases z:(b.at i).st=.gone
    ·exact z
    ·rw [Js z] at c;exact absurd rfl c
   exact hN _ _ ⟨_,qs,rfl,g,e,by rw [vc c];exact M⟩
 ·rintro σ H2 ⟨v,qs,rfl,g,e,M⟩
  rw [bR,Yh] at M
  exact k H2 acc qs g hacc e M
theorem fO:wb ["rooms","deeds","yard","deed"] ["rooms","deeds"] (vZ xT):=L2.wy rfl rfl rfl rfl (by decide +kernel)
theorem mQ {f:Addr} {fd:FuncData} (F:Fun K "standing" "standing" xT f fd) (T':Txt K mg Z) (K_Yard:KD P w K mg base "Yard" Z.Y ["self","rooms"] 3 (zv Z)) (F_answer:FD P w K mg base CX0 "answer" ["yard","deed"] 8 (yK Z)) (M_Yard_left_standing:MD P w K mg base CX0 Z.Y "left_standing" ["self"] 6 (spLeft Z)) : we P w K mg base CX0 9 f fd ["rooms","deeds"] yN:=by
 have T:=T'
 refine F.ok fO (fun vs H Q E h=>?_) (fun cdv A outer s H vs Q E hr h=>?_)
 ·obtain ⟨r,l,rooms,ps,dds,rfl,_⟩:=h
  rfl
 obtain ⟨r,l,rooms,ps,dds,rfl,hr',hl,he,hrl,hdl,k⟩:=h
 refine ⟨_,    (ae
 (aC (i:=2) fO.nd rfl (Or.inl rfl) (oC K_Yard hr.mn rfl (aa (pv 0) aj)))
 (ae
 (bU PassesOwn.never rfl (bC (pv 1)) (aO (i:=3) fO.nd rfl (Or.inl rfl))
 (ak
 (aF (h9 F_answer hr.mn rfl wg (aa (pv 2) (aa (pv 3) aj))))))
 (ak
 (aA (eN M_Yard_left_standing T.cy hr.mn wg (pv 2)))))),?_⟩
 refine ⟨_,rfl,fun y d ny nd ne=>?_⟩
 have g1:wm H (upd (upd H d (.own y)) y (.ins Z.Y d [])):=fun c o h=>by
  rw [ao (aE h ny),ao (aE h nd)]
  exact h
 refine ⟨y,d,r,rooms,rfl,af,g1 _ _ hr',hrl,fun H2 a p k2 fr=>⟨rfl,?_⟩⟩
 have g2:wm H H2:=fun c o h=>k2 c o (g1 _ _ h) (aE h ny)
 have G0:yO Z H y H2 a (fun _=>[]) (vY.begun rooms) :=
  ⟨p,cH rooms,jJ rooms,g2,(fun x m=>(fr x m).elim (fun e=>by rw [e];exact ny) fun z=>g1.free z)⟩
 have ple:ps.length=dds.length:=he.len
 refine ⟨_,rfl,l,rfl,⟨_,SqL.of (G0.same _ _ hl)⟩,bZ (K:=K) (a:=l) (xs:=ps.map V.ref) (fun i σ H3=>∃ (v:Option V) (a:YAd) (hs:Nat→List Nat),σ=[some (.ref r),some (.ref l),some (.ref y),v]∧yO Z H y H3 a hs ((vY.begun rooms).run (dds.take i)).1)
  ⟨none,a,_,rfl,G0⟩ (fun i σ H3 _ ⟨_,_,_,_,G⟩=>SqL.of (G.same _ _ hl)) ?_ ?_⟩
 ·rintro i x σ H3 hi ⟨v0,a3,hs3,rfl,G⟩
  rw [Jw] at hi
  cases ei:ps[i]? with
  | none=>rw [ei] at hi;cases hi
  | some q =>
   rw [ei] at hi
   cases hi
   have hil:i<dds.length:=by rw [← ple];exact (Jg.mp ei).1
   have hq:=G.same _ _ (he.at_ i q dds[i] ei (Ja hil))
   have et:dds.take (i+1)=dds.take i++[dds[i]]:=bp (Ja hil)
   have hal:((vY.begun rooms).run (dds.take i)).1.all.length≤500:=by
    have:=(je (vY.begun rooms) (cH rooms) (dds.take i)).2
    rw [Y4] at this
    have:((vY.begun rooms).run (dds.take i)).1.all.length≤0+min i dds.length:=this
    omega
   refine ⟨_,rfl,_,rfl,y,a3,_,hs3,q,dds[i],rfl,hq,⟨G.pic,G.ok,G.here,hal⟩,fun H4 a4 hs4 w A4 O4 r4 f4=>?_⟩
   refine ⟨some (.ref q),a4,hs4,rfl,?_⟩
   rw [et,ek]
   exact G.step A4 O4
 ·rintro σ H3 ⟨v0,a3,hs3,rfl,G⟩
  rw [J9,ple,Y8] at G
  have hal:((vY.begun rooms).run dds).1.all.length≤600:=by
   have:=(je (vY.begun rooms) (cH rooms) dds).2
   have:((vY.begun rooms).run dds).1.all.length≤0+dds.length:=this
   omega
  refine ⟨_,rfl,y,_,_,rfl,G.pic.yard,noY,y,a3,_,hs3,rfl,G.pic,hal,fun H4 l2 qs g4 hl2 e4 M=>?_⟩
  exact k H4 l2 qs (G.same.trans g4) (G.same.free hl2) e4 M
end
end Kp
namespace Kp
open PySem L2
abbrev yw:Stmt:=top 47
def zK:Sp:=fun vs H Q _=>∃ (d:Addr) (a:Adr) (b:vY),vs=[.ref d]∧Pic H d a b∧b.all.length≤600 ∧
 ∀ (H':Hp) (l:Addr) (qs:List Addr),wm H H'→H l=none→H' l=some (.lst (qs.map V.ref))→xm H' b (b.up b.all.length) qs→Q (.ref l) H'
section
variable {P:Program} {w:World} {K:Ay} {mg:Str→Option Value} {base:Heap}
theorem cZ:wb ["_law_state","_law_rows","_law_number","_law_one"] ["_law_state"] (vZ yw):=L2.wy rfl rfl rfl rfl (by decide +kernel)
theorem qo {f:Addr} {fd:FuncData} (F:Fun K "_law_stands" "_law_stands" yw f fd) (T:Blt mg) : we P w K mg base CX0 1 f fd ["_law_state"] zK:=by
 refine F.ok cZ (fun vs H Q E h=>?_) (fun cdv A outer s H vs Q E hr h=>?_)
 ·obtain ⟨d,a,b,rfl,_⟩:=h
  rfl
 obtain ⟨d,a,b,rfl,p,hl,k⟩:=h
 refine ⟨_,    (ae
 (aC (i:=1) cZ.nd rfl (Or.inl rfl) (a0 aj))
 (ae
 (bU PassesOwn.never rfl (dS rfl T.range (aa (aJ aG rfl T.len bF (aa (a8 (bM hr) (pv 0) ay (fun _ _=>rfl)) aj)) aj)) (aO (i:=2) cZ.nd rfl (Or.inl rfl))
 (ae
 (aC (i:=3) cZ.nd rfl (Or.inl rfl) (ax av (a8 (bM hr) (pv 0) ay (fun _ _=>rfl)) (pv 2) (fun _ _=>rfl)))
 (ak
 (aH (au fD (ax av (pv 3) ag (fun _ _=>rfl)) ay (wa _))
 (ak
 (aF (bP Jl Jq Jr aX (pv 1) (aa (bu (aa (pv 2) (aa (ax av (pv 3) ag (fun _ _=>rfl)) (aa (ax av (pv 3) ag (fun _ _=>rfl)) (aa (ax av (pv 3) ag (fun _ _=>rfl)) (aa (ax av (pv 3) ag (fun _ _=>rfl)) (aa (ax av (pv 3) ag (fun _ _=>rfl)) aj))))))) aj))))
 aB))))
 (ak
 (aA (pv 1))))),?_⟩
 refine ⟨(by show 0≤sizeLine;decide),fun acc hacc=>?_⟩
 have gA:=ai hacc (.lst [])
 have e0:(upd H acc (.lst [])) acc=some (.lst (([] : List Addr).map V.ref)):=af
 generalize upd H acc (.lst [])=H1 at gA e0
 have p1:=p.same gA
 have ea:(a.recs.map V.ref).length=b.all.length:=by rw [J9];exact p.recs.len
 refine ⟨_,rfl,d,_,rfl,p1.gA,a.A,_,rfl,.inl (SqL.of p1.all),_,rfl,?_,?_,?_⟩
 ·rw [ea];omega
 ·rw [ea];omega
 rw [ea,Jp]
 refine cO (lo:=0) (n:=b.all.length) (fun i σ H2=>∃ (v2 v3:Option V) (qs:List Addr),σ=[some (.ref d),some (.ref acc),v2,v3]∧wm H H2∧H2 acc=some (.lst (qs.map V.ref))∧xm H2 b (b.up i) qs) ⟨_,_,[],rfl,gA,e0,Each.nil⟩ ?_ ?_
 ·rintro i σ H2 hi ⟨v2,v3,qs,rfl,g,e,M⟩
  rw [Int.zero_add]
  have p2:=p.same g
  obtain ⟨z,ez,hz⟩:=p2.eM hi
  refine ⟨_,rfl,d,_,rfl,p2.gA,_,rfl,a.A,_,_,_,rfl,rfl,SqL.of p2.all,bG ez,?_⟩
  refine ⟨_,rfl,z,_,_,_,rfl,rfl,SqL.of hz,rfl,rfl,_,rfl,?_⟩
  rw [show decide (V.str (b.at i).st.txt=V.str "gone")=decide ((b.at i).st=.gone) from jc _]
  refine wx (fun c=>?_) (fun c=>?_)
  ·have c:(b.at i).st≠.gone:=fun z=>by rw [Je z] at c;cases c
   refine ⟨_,rfl,.inl ⟨rfl,_,SqL.of e⟩,_,rfl,_,rfl,z,_,_,_,rfl,rfl,SqL.of hz,rfl,_,rfl,z,_,_,_,rfl,rfl,SqL.of hz,rfl,_,rfl,z,_,_,_,rfl,rfl,SqL.of hz,rfl,_,rfl,z,_,_,_,rfl,rfl,SqL.of hz,rfl,_,rfl,z,_,_,_,rfl,rfl,SqL.of hz,rfl,(by show 6≤sizeLine;decide),fun z3 hz4=>?_⟩
   have gw:=ai hz4 (.tup (yp i (b.at i)))
   have hw:(upd H2 z3 (.tup (yp i (b.at i)))) z3=some (.tup (yp i (b.at i))):=af
   refine wz (H':=upd H2 z3 (.tup (yp i (b.at i)))) rfl ?_
   have e5:=gw _ _ e
   have nz:z3≠acc:=fun q=>by rw [q,e] at hz4;cases hz4
   generalize upd H2 z3 (.tup (yp i (b.at i)))=H5 at gw hw e5
   have lq:qs.length=(b.up i).length:=M.len
   have:=nZ b i
   refine ⟨acc,_,_,rfl,rfl,e5,big (by rw [J9];omega),_,_,qs++[z3],rfl,bx (g.trans gw) hacc _,by rw [af];simp,?_⟩
   rw [tM c]
   refine Each.snoc (Each.mono M fun x _ n h=>?_) (by rw [ao nz];exact hw)
   have h5:=gw _ _ h
   rw [ao (bS h5 e5 (by intro q;cases q))]
   exact h5
  ·have c:(b.at i).st=.gone:=by
    by_cases z:(b.at i).st=.gone
    ·exact z
    ·rw [Js z] at c;exact absurd rfl c
   exact ⟨_,_,qs,rfl,g,e,by rw [vc c];exact M⟩
 ·rintro σ H2 ⟨v2,v3,qs,rfl,g,e,M⟩
  exact ⟨_,rfl,k H2 acc qs g hacc e M⟩
end
end Kp
namespace Kp
open PySem L2
def wd.calm:wd→Prop
 | .keep _ _ _ _=>False
 | _=>True
theorem c5 {b:vY} (O:b.Ok) {dd:wd} (h:dd.calm) : (b.done dd).1.all.length=b.all.length:=by
 cases dd with
 | keep w s m p=>exact h.elim
 | take n =>
  show (if b.live n=false then _ else b.wW n.toNat:vY × Dt).1.all.length=_
  split
  ·rfl
  ·unfold vY.wW
   split
   ·exact Jt ..
   ·rfl
 | back n =>
  show (if b.live n=false then _ else ((b.leave n.toNat).1,wY (b.leave n.toNat).2) : vY × Dt).1.all.length=_
  by_cases c:b.live n=false
  ·rw [J3 c]
  ·rw [J0 c];exact (bQ O (bJ c).1).len
 | part n m =>
  show (if b.live n=false then _ else b.wV n.toNat m:vY × Dt).1.all.length=_
  by_cases c:b.live n=false
  ·rw [J3 c]
  rw [J0 c]
  obtain ⟨hn,hg⟩:=bJ c
  unfold vY.wV
  by_cases c1:m<1
  ·rw [J3 c1]
  rw [J0 c1]
  by_cases c2:(b.at n.toNat).many≤m
  ·rw [J3 c2]
  rw [J0 c2]
  have O2:=O.put (r:={ b.at n.toNat with many:=(b.at n.toNat).many-m }) hn (O.shw _ hn) Iff.rfl (fun _=>rfl) (O.til _ hn)
  exact (cm O2 (O.shw _ hn)).yD.len
 | move n s =>
  show (if b.live n=false then _ else b.moveTo n.toNat s:vY × Dt).1.all.length=_
  by_cases c:b.live n=false
  ·rw [J3 c]
  rw [J0 c]
  obtain ⟨hn,hg⟩:=bJ c
  unfold vY.moveTo
  by_cases c1:b.wo s=false
  ·rw [J3 c1]
  rw [J0 c1]
  by_cases c2:(b.at n.toNat).st=.waiting
  ·rw [J3 c2]
  rw [J0 c2]
  by_cases c3:((b.at n.toNat).shw:Int)=s
  ·rw [J3 c3]
  rw [J0 c3]
  by_cases c4:b.rows.getD s.toNat []≠[]∨b.spare s.toNat<(b.at n.toNat).many
  ·rw [J3 c4]
  rw [J0 c4]
  have O2:=O.put (r:={ b.at n.toNat with shw:=s.toNat }) hn (cR c1) Iff.rfl (fun q=>absurd q c2) (O.til _ hn)
  exact (cm O2 (O.shw _ hn)).yD.len
 | pass n w =>
  show (if b.live n=false then _ else ({ b with all:=b.all.set n.toNat { b.at n.toNat with who:=w } },.str "passed") : vY × Dt).1.all.length=_
  split
  ·rfl
  ·exact Jt ..
 | clock t =>
  show (if t<b.now then _ else ((b.clock t).1,w9 (b.clock t).2) : vY × Dt).1.all.length=_
  split
  ·rfl
  ·exact (dz _ b O (bg b)).2.2.1
 | free s=>show (if b.wo s=false then _ else _:vY × Dt).1.all.length=_;split <;> rfl
 | row s=>show (if b.wo s=false then _ else _:vY × Dt).1.all.length=_;split <;> rfl
 | state n=>show (if b.wZ n=false then _ else _:vY × Dt).1.all.length=_;split <;> rfl
theorem iy:∀ (xs ys:List wd) (b:vY),b.run (xs++ys)=(((b.run xs).1.run ys).1,(b.run xs).2++((b.run xs).1.run ys).2)
 | [],ys,b=>rfl
 | d::xs,ys,b=>by rw [List.cons_append,cG,iy xs ys,cG];rfl
theorem c6 {b:vY} (O:b.Ok) (dd:wd) : (b.done dd).1.now=b.now∨∃ t,dd=.clock t∧(b.done dd).1.now=t:=by
 cases dd with
 | keep w s m p =>
  left
  show (b.enter w s m p).1.now=_
  unfold vY.enter
  by_cases c:b.wo s=false
  ·rw [J3 c]
  rw [J0 c]
  by_cases c1:m<1
  ·rw [J3 c1]
  rw [J0 c1]
  by_cases c2:b.rooms.getD s.toNat 0<m
  ·rw [J3 c2]
  rw [J0 c2]
  by_cases c3:p<1
  ·rw [J3 c3]
  rw [J0 c3]
  have hs:=cR c
  have O2:=O.enter (r:=⟨w,s.toNat,m,p,.waiting,none⟩) hs rfl rfl
  exact (cm (s:=s.toNat) O2 hs).now
 | take n =>
  left
  show (if b.live n=false then _ else b.wW n.toNat:vY × Dt).1.now=_
  split
  ·rfl
  ·unfold vY.wW
   split <;> rfl
 | back n =>
  left
  show (if b.live n=false then _ else ((b.leave n.toNat).1,wY (b.leave n.toNat).2) : vY × Dt).1.now=_
  by_cases c:b.live n=false
  ·rw [J3 c]
  ·rw [J0 c];exact (bQ O (bJ c).1).now
 | part n m =>
  left
  show (if b.live n=false then _ else b.wV n.toNat m:vY × Dt).1.now=_
  by_cases c:b.live n=false
  ·rw [J3 c]
  rw [J0 c]
  obtain ⟨hn,hg⟩:=bJ c
  unfold vY.wV
  by_cases c1:m<1
  ·rw [J3 c1]
  rw [J0 c1]
  by_cases c2:(b.at n.toNat).many≤m
  ·rw [J3 c2]
  rw [J0 c2]
  have O2:=O.put (r:={ b.at n.toNat with many:=(b.at n.toNat).many-m }) hn (O.shw _ hn) Iff.rfl (fun _=>rfl) (O.til _ hn)
  exact (cm O2 (O.shw _ hn)).yD.now
 | move n s =>
  left
  show (if b.live n=false then _ else b.moveTo n.toNat s:vY × Dt).1.now=_
  by_cases c:b.live n=false
  ·rw [J3 c]
  rw [J0 c]
  obtain ⟨hn,hg⟩:=bJ c
  unfold vY.moveTo
  by_cases c1:b.wo s=false
  ·rw [J3 c1]
  rw [J0 c1]
  by_cases c2:(b.at n.toNat).st=.waiting
  ·rw [J3 c2]
  rw [J0 c2]
  by_cases c3:((b.at n.toNat).shw:Int)=s
  ·rw [J3 c3]
  rw [J0 c3]
  by_cases c4:b.rows.getD s.toNat []≠[]∨b.spare s.toNat<(b.at n.toNat).many
  ·rw [J3 c4]
  rw [J0 c4]
  have O2:=O.put (r:={ b.at n.toNat with shw:=s.toNat }) hn (cR c1) Iff.rfl (fun q=>absurd q c2) (O.til _ hn)
  exact (cm O2 (O.shw _ hn)).yD.now
 | pass n w =>
  left
  show (if b.live n=false then _ else ({ b with all:=b.all.set n.toNat { b.at n.toNat with who:=w } },.str "passed") : vY × Dt).1.now=_
  split <;> rfl
 | clock t =>
  show (if t<b.now then _ else ((b.clock t).1,w9 (b.clock t).2) : vY × Dt).1.now=_∨_
  by_cases c:t<b.now
  ·left;rw [J3 c]
  ·right
   refine ⟨t,rfl,?_⟩
   show (if t<b.now then _ else ((b.clock t).1,w9 (b.clock t).2) : vY × Dt).1.now=_
   rw [J0 c]
   exact (dz _ b O (bg b)).2.2.2
 | free s=>left;show (if b.wo s=false then _ else _:vY × Dt).1.now=_;split <;> rfl
 | row s=>left;show (if b.wo s=false then _ else _:vY × Dt).1.now=_;split <;> rfl
 | state n=>left;show (if b.wZ n=false then _ else _:vY × Dt).1.now=_;split <;> rfl
end Kp
namespace Kp
open PySem L2
theorem c7:∀ (ds:List wd) (b:vY),(b.run ds).2.length=ds.length
 | [],_=>rfl
 | d::ds,b=>by
  rw [cG,Jy]
  show _=(_::_).length
  rw [Jy,c7 ds]
structure xE (H0:Hp) (d:Addr) (H:Hp) (a:Adr) (b:vY) : Prop where
 pic:Pic H d a b
 ok:b.Ok
 same:wm H0 H
 foot:∀ x∈foot d a,H0 x=none
theorem xE.step {H0:Hp} {d:Addr} {H H':Hp} {a a':Adr} {b:vY} {dd:wd} (G:xE H0 d H a b) (A:After H d a H' a' (b.done dd).1) : xE H0 d H' a' (b.done dd).1:=by
 have s':wm H0 H':=fun x o h=>A.keep _ _ (G.same x o h) fun m=>by rw [G.foot x m] at h;cases h
 refine ⟨A.pic,(di G.ok dd).ok,s',fun x m=>?_⟩
 rcases A.ext x m with z | z
 ·exact G.foot x z
 ·exact G.same.free z
theorem xE.more {H0:Hp} {d:Addr} {H H':Hp} {a:Adr} {b:vY} (G:xE H0 d H a b) (g:wm H H') : xE H0 d H' a b:=⟨G.pic.same g,G.ok,G.same.trans g,G.foot⟩
theorem lS {F:List Addr} {H:Hp} {ds:List Dt} {v:V} (h:Rep F H (.lst ds) v) : ∃ (a:Addr) (xs:List V),v=.ref a∧H a=some (.lst xs)∧wt F H ds xs:=by
 unfold Rep at h
 obtain ⟨a,xs,e,_,ha,r⟩:=h
 rw [J3 rfl] at ha
 exact ⟨a,xs,e,ha,r⟩
theorem mS (b:vY) : wB (.lst b.stands)≤7*b.all.length+1:=by
 rw [dB]
 unfold vY.stands
 have:=fT (f:=fun n=>rowD n (b.at n)) (k:=7) (fun n=>by
  unfold rowD
  rw [dB,bc,bc,bc,bc,bc,bc,eR,cF,d9,cF,cF,d9,mx]
  exact Jm _) (b.up b.all.length)
 have:=nZ b b.all.length
 omega
theorem xm.same {H H':Hp} {b:vY} {ns:List Nat} {qs:List Addr} (M:xm H b ns qs) (g:wm H H') : xm H' b ns qs:=Each.mono M fun _ _ _ h=>g _ _ h
theorem mT {H:Hp} {b:vY} {l:Addr} {qs:List Addr} (e:H l=some (.lst (qs.map V.ref))) (M:xm H b (b.up b.all.length) qs) : Rep [] H (.lst b.stands) (.ref l):=fb (by simp) e (kJ M)
end Kp
namespace Kp
open PySem L2
def Ap (K:Ay) : Sp:=fun vs H Q _=>∃ (a:Addr) (ns:List Int),vs=[.ref a]∧SqL K H a (ns.map V.int)∧ns.length≤63∧∀ H',wm H H'→Q (.bl true) H'
theorem tP (ns:List Int) (lo hi:Nat) : ∃ zs:List Int,ym (ns.map V.int) (some ((lo:Nat) : Int)) (some ((hi:Nat) : Int))=zs.map V.int∧zs.length≤hi-lo:=by
 refine ⟨(ns.drop (HT.sIx ns.length 0 (some ((lo:Nat) : Int)))).take (HT.sIx ns.length ns.length (some ((hi:Nat) : Int))-HT.sIx ns.length 0 (some ((lo:Nat) : Int))),?_,?_⟩
 ·unfold ym
  rw [J9,List.map_take,List.map_drop]
 ·rw [Y4,HT.i6,HT.i6,List.length_drop]
  omega
structure Defs (P:Program) (w:World) (K:Ay) (mg:Str→Option Value) (base:Heap) (x:Str) (st:Stmt) (ps:List Str) (n:Nat) (sp:Sp) (f:Addr) (fd:FuncData) : Prop where
 F:Fun K x x st f fd
 b:Binds K fd ps []
 m:mg x=some (.ref f)
 G:we P w K mg base CX0 n f fd ps sp
end Kp
namespace Kp
open PySem L2
structure vY.Tm (b:vY) : Prop where
 sp:∀ n,n<b.all.length→1≤(b.at n).span∧(b.at n).span≤10 ^ 41
 lo:∀ n u,n<b.all.length→(b.at n).til=some u→b.now≤u
 hi:∀ n u,n<b.all.length→(b.at n).til=some u→u≤b.now+10 ^ 41
 now0 : 0≤b.now
theorem vY.Tm.rows {b:vY} (T:b.Tm) (x:List (List Nat)) : vY.Tm { b with rows:=x }:=⟨T.sp,T.lo,T.hi,T.now0⟩
theorem vY.Tm.set {b:vY} (T:b.Tm) {n:Nat} {r:Rec} (hn:n<b.all.length) (hs:r.span=(b.at n).span) (ht:r.til=none∨r.til=(b.at n).til∨r.til=some (b.now+(b.at n).span)) : vY.Tm { b with all:=b.all.set n r }:=by
 have el:(b.all.set n r).length=b.all.length:=Jt ..
 have key:∀ m,vY.at { b with all:=b.all.set n r } m=if m=n then r else b.at m:=tL hn
 have hb:=T.sp n hn
 refine ⟨fun m hm=>?_,fun m u hm h=>?_,fun m u hm h=>?_,T.now0⟩
 ·rw [key]
  by_cases e:m=n
  ·rw [J3 e,hs];exact hb
  ·rw [J0 e];exact T.sp m (by rw [← el];exact hm)
 ·rw [key] at h
  show b.now≤u
  by_cases e:m=n
  ·rw [J3 e] at h
   rcases ht with z | z | z
   ·rw [z] at h;cases h
   ·rw [z] at h;exact T.lo n u hn h
   ·rw [z] at h;cases h;omega
  ·rw [J0 e] at h;exact T.lo m u (by rw [← el];exact hm) h
 ·rw [key] at h
  show u≤b.now+10 ^ 41
  by_cases e:m=n
  ·rw [J3 e] at h
   rcases ht with z | z | z
   ·rw [z] at h;cases h
   ·rw [z] at h;exact T.hi n u hn h
   ·rw [z] at h;cases h;omega
  ·rw [J0 e] at h;exact T.hi m u (by rw [← el];exact hm) h
theorem vY.Tm.serve {b:vY} (O:b.Ok) (T:b.Tm) {s:Nat} (hs:s<b.rooms.length) : (b.serve s).1.Tm:=by
 refine dU (s:=s) (fun b o=>b.Tm→o.1.Tm) (fun b _ _ _ T=>T) (fun b n r o O hs h c O1 z T=>z ?_) _ b rfl O hs T
 obtain ⟨a1,a2,a3⟩:=O.row s n (by rw [h];exact Jb)
 exact (T.set (r:=(b.at n).hold b.now) a1 rfl (.inr (.inr rfl))).rows _
theorem vY.Tm.left {b:vY} (T:b.Tm) {n:Nat} (hn:n<b.all.length) : (b.left n).Tm:=by
 have z:=T.set (r:=(b.at n).go) hn rfl (.inl rfl)
 unfold vY.left
 by_cases c:(b.at n).st=.waiting
 ·rw [gX c];exact z.rows _
 ·rw [gY c];exact z
theorem vY.Tm.leave {b:vY} (O:b.Ok) (T:b.Tm) {n:Nat} (hn:n<b.all.length) : (b.leave n).1.Tm:=by
 rw [cX]
 exact (T.left hn).serve (cW O hn) (cv O hn)
theorem vY.Tm.add {b:vY} (T:b.Tm) {r:Rec} (h1 : 1≤r.span) (h2:r.span≤10 ^ 41) (h3:r.til=none) (x:List (List Nat)) : vY.Tm { b with all:=b.all++[r],rows:=x }:=by
 have key:∀ m,m<(b.all++[r]).length→vY.at { b with all:=b.all++[r],rows:=x } m=if m=b.all.length then r else b.at m:=fun m hm=>getD_snoc (by rw [Jc] at hm;exact hm)
 have lt:∀ m,m<(b.all++[r]).length→m≠b.all.length→m<b.all.length:=fun m hm hn=>by rw [Jc,Jo] at hm;omega
 refine ⟨fun m hm=>?_,fun m u hm h=>?_,fun m u hm h=>?_,T.now0⟩
 ·rw [key m hm]
  by_cases e:m=b.all.length
  ·rw [J3 e];exact ⟨h1,h2⟩
  ·rw [J0 e];exact T.sp m (lt m hm e)
 ·rw [key m hm] at h
  by_cases e:m=b.all.length
  ·rw [J3 e,h3] at h;cases h
  ·rw [J0 e] at h;exact T.lo m u (lt m hm e) h
 ·rw [key m hm] at h
  by_cases e:m=b.all.length
  ·rw [J3 e,h3] at h;cases h
  ·rw [J0 e] at h;exact T.hi m u (lt m hm e) h
theorem mU {b:vY} {t u:Int} {n:Nat} (O:b.Ok) (h:b.first t=some (u,n)) {m:Nat} {v:Int} (hm:m<b.all.length) (hv:(b.at m).til=some v) : u≤v:=by
 obtain ⟨_,_,_,hu⟩:=bw h
 by_cases c:v≤t
 ·have hh:(b.at m).st=.held:=(O.til m hm).mpr (by rw [hv];intro q;cases q)
  have q:=c8 (t:=t) (u:=v) (n:=m) (r:=b.at m) hh hv c (k:=0) (rs:=b.all) (by rw [gm hm];exact Ja hm)
  rw [Nat.zero_add] at q
  have:=(cx h).2 _ q
  have z:¬ (v<u∨(v=u∧m<n)):=this
  omega
 ·omega
theorem jL {b:vY} {t:Int} (O:b.Ok) (h:b.first t=none) {m:Nat} {v:Int} (hm:m<b.all.length) (hv:(b.at m).til=some v) : t<v:=by
 by_cases c:v≤t
 ·have hh:(b.at m).st=.held:=(O.til m hm).mpr (by rw [hv];intro q;cases q)
  have q:=c8 (t:=t) (u:=v) (n:=m) (r:=b.at m) hh hv c (k:=0) (rs:=b.all) (by rw [gm hm];exact Ja hm)
  rw [fg h] at q
  cases q
 ·omega
theorem vY.Tm.at_ {b:vY} (O:b.Ok) (T:b.Tm) {t u:Int} {n:Nat} (h:b.first t=some (u,n)) : vY.Tm { b with now:=u }:=by
 obtain ⟨hn,_,hu,_⟩:=bw h
 have h0:=T.lo n u hn hu
 have:=T.now0
 refine ⟨T.sp,fun m v hm hv=>mU O h hm hv,fun m v hm hv=>?_,by show 0≤u;omega⟩
 have:=T.hi m v hm hv
 show v≤u+10 ^ 41
 omega
theorem jM {t:Int} : ∀ (k:Nat) (b:vY),b.Ok→b.Tm→b.now≤t→wA b.all≤k→(b.wj t k).1.Tm
 | k,b,O,T,ht,hk=>by
  cases h:b.first t with
  | none =>
   rw [bf h]
   have:=T.now0
   refine ⟨T.sp,fun m v hm hv=>Int.le_of_lt (jL O h hm hv),fun m v hm hv=>?_,by show 0≤t;omega⟩
   have:=T.hi m v hm hv
   show v≤t+10 ^ 41
   omega
  | some p =>
   obtain ⟨u,n⟩:=p
   obtain ⟨hn,_,_,hu⟩:=bw h
   obtain ⟨j,e1,e,hj⟩:=ba h O hk
   have S:=bQ (O.now u) (n:=n) hn
   rw [e]
   exact jM (t:=t) j _ S.ok ((T.at_ O h).leave (O.now u) hn) (by rw [S.now];exact hu) hj
 termination_by k=>k
theorem uP {b:vY} (O:b.Ok) (T:b.Tm) {dd:wd} (hf:dd.fine) : (b.done dd).1.Tm:=by
 cases dd with
 | keep w s m p =>
  show (b.enter w s m p).1.Tm
  unfold vY.enter
  by_cases c:b.wo s=false
  ·rw [J3 c];exact T
  rw [J0 c]
  by_cases c1:m<1
  ·rw [J3 c1];exact T
  rw [J0 c1]
  by_cases c2:b.rooms.getD s.toNat 0<m
  ·rw [J3 c2];exact T
  rw [J0 c2]
  by_cases c3:p<1
  ·rw [J3 c3];exact T
  rw [J0 c3]
  have hs:=cR c
  have O2:=O.enter (r:=⟨w,s.toNat,m,p,.waiting,none⟩) hs rfl rfl
  exact vY.Tm.serve O2 (T.add (r:=⟨w,s.toNat,m,p,.waiting,none⟩) (by show 1≤p;omega) hf rfl _) hs
 | take n =>
  show (if b.live n=false then _ else b.wW n.toNat:vY × Dt).1.Tm
  by_cases c:b.live n=false
  ·rw [J3 c];exact T
  rw [J0 c]
  unfold vY.wW
  by_cases c1:(b.at n.toNat).st=.held
  ·rw [J3 c1];exact T.set (bJ c).1 rfl (.inl rfl)
  ·rw [J0 c1];exact T
 | back n =>
  show (if b.live n=false then _ else ((b.leave n.toNat).1,wY (b.leave n.toNat).2) : vY × Dt).1.Tm
  by_cases c:b.live n=false
  ·rw [J3 c];exact T
  ·rw [J0 c];exact T.leave O (bJ c).1
 | part n m =>
  show (if b.live n=false then _ else b.wV n.toNat m:vY × Dt).1.Tm
  by_cases c:b.live n=false
  ·rw [J3 c];exact T
  rw [J0 c]
  obtain ⟨hn,hg⟩:=bJ c
  unfold vY.wV
  by_cases c1:m<1
  ·rw [J3 c1];exact T
  rw [J0 c1]
  by_cases c2:(b.at n.toNat).many≤m
  ·rw [J3 c2];exact T
  rw [J0 c2]
  have O2:=O.put (r:={ b.at n.toNat with many:=(b.at n.toNat).many-m }) hn (O.shw _ hn) Iff.rfl (fun _=>rfl) (O.til _ hn)
  exact vY.Tm.serve O2 (T.set hn rfl (.inr (.inl rfl))) (O.shw _ hn)
 | move n s =>
  show (if b.live n=false then _ else b.moveTo n.toNat s:vY × Dt).1.Tm
  by_cases c:b.live n=false
  ·rw [J3 c];exact T
  rw [J0 c]
  obtain ⟨hn,hg⟩:=bJ c
  unfold vY.moveTo
  by_cases c1:b.wo s=false
  ·rw [J3 c1];exact T
  rw [J0 c1]
  by_cases c2:(b.at n.toNat).st=.waiting
  ·rw [J3 c2];exact T
  rw [J0 c2]
  by_cases c3:((b.at n.toNat).shw:Int)=s
  ·rw [J3 c3];exact T
  rw [J0 c3]
  by_cases c4:b.rows.getD s.toNat []≠[]∨b.spare s.toNat<(b.at n.toNat).many
  ·rw [J3 c4];exact T
  rw [J0 c4]
  have O2:=O.put (r:={ b.at n.toNat with shw:=s.toNat }) hn (cR c1) Iff.rfl (fun q=>absurd q c2) (O.til _ hn)
  exact vY.Tm.serve O2 (T.set hn rfl (.inr (.inl rfl))) (O.shw _ hn)
 | pass n w =>
  show (if b.live n=false then _ else ({ b with all:=b.all.set n.toNat { b.at n.toNat with who:=w } },.str "passed") : vY × Dt).1.Tm
  by_cases c:b.live n=false
  ·rw [J3 c];exact T
  ·rw [J0 c];exact T.set (bJ c).1 rfl (.inr (.inl rfl))
 | clock t =>
  show (if t<b.now then _ else ((b.clock t).1,w9 (b.clock t).2) : vY × Dt).1.Tm
  by_cases c:t<b.now
  ·rw [J3 c];exact T
  ·rw [J0 c];exact jM _ b O T (by omega) (bg b)
 | free s=>show (if b.wo s=false then _ else _:vY × Dt).1.Tm;split <;> exact T
 | row s=>show (if b.wo s=false then _ else _:vY × Dt).1.Tm;split <;> exact T
 | state n=>show (if b.wZ n=false then _ else _:vY × Dt).1.Tm;split <;> exact T
theorem n5:∀ (ds:List wd) (b:vY),b.Ok→b.Tm→(∀ dd∈ds,dd.fine)→(b.run ds).1.Tm
 | [],_,_,T,_=>T
 | d::ds,b,O,T,hf=>n5 ds _ (di O d).ok (uP O T (hf _ Jb)) fun x hx=>hf x (Jd _ hx)
theorem tQ (rooms:List Int) : (vY.begun rooms).Tm:=⟨fun n h=>absurd h (Y7 _),fun n u h=>absurd h (Y7 _),fun n u h=>absurd h (Y7 _),(by show (0:Int)≤0;decide)⟩
end Kp
namespace Kp
open PySem L2
theorem qp {b:vY} {s:Nat} (O:b.Ok) (hs:s<b.rooms.length) (m:Nat) : (((b.serve s).1.at m).til=(b.at m).til∨((b.serve s).1.at m).til=some (b.now+(b.at m).span))∧((b.serve s).1.at m).span=(b.at m).span:=by
 refine dU (s:=s) (fun b o=>((o.1.at m).til=(b.at m).til∨(o.1.at m).til=some (b.now+(b.at m).span))∧(o.1.at m).span=(b.at m).span) (fun b O _ _=>⟨.inl rfl,rfl⟩) (fun b n r o O hs h c O1 z=>?_) _ b rfl O hs
 obtain ⟨a1,a2,a3⟩:=O.row s n (by rw [h];exact Jb)
 have key:(b.xA s n r).at m=if m=n then (b.at n).hold b.now else b.at m:=tL a1 m
 have en:(b.xA s n r).now=b.now:=rfl
 rw [key,en] at z
 by_cases e:m=n
 ·rw [J3 e] at z
  subst e
  have e1:((b.at m).hold b.now).til=some (b.now+(b.at m).span):=rfl
  have e2:((b.at m).hold b.now).span=(b.at m).span:=rfl
  rw [e1,e2] at z
  exact ⟨.inr (z.1.elim id id),z.2⟩
 ·rw [J0 e] at z
  exact z
theorem uQ {b:vY} {n:Nat} (hn:n<b.all.length) (m:Nat) : (b.left n).at m=if m=n then (b.at n).go else b.at m:=by
 unfold vY.left
 by_cases c:(b.at n).st=.waiting
 ·rw [gX c];exact bI hn
 ·rw [gY c];exact bI hn
end Kp
namespace Kp
open PySem L2
theorem jN {t:Int} : ∀ (k j:Nat) (b:vY),b.Ok→wA b.all≤k→wA b.all≤j→b.wj t k=b.wj t j
 | k,j,b,O,hk,hj=>by
  cases h:b.first t with
  | none=>rw [bf h,bf h]
  | some p =>
   obtain ⟨u,n⟩:=p
   obtain ⟨hn,_⟩:=bw h
   obtain ⟨k',e1,e,hk'⟩:=ba h O hk
   obtain ⟨j',f1,f,hj'⟩:=ba h O hj
   have S:=bQ (O.now u) (n:=n) hn
   rw [e,f,jN k' j' _ S.ok hk' hj']
 termination_by k=>k
theorem n6 {t x:Int} {k:Nat} {b:vY} (O:b.Ok) (hk:wA b.all≤k) : vY.wj t k { b with now:=x }=b.wj t k:=by
 have hf:vY.first { b with now:=x } t=b.first t:=rfl
 cases h:b.first t with
 | none=>rw [bf h,bf (by rw [hf];exact h)]
 | some p =>
  obtain ⟨u,n⟩:=p
  obtain ⟨j,e1,e,_⟩:=ba h O hk
  obtain ⟨i,f1,f,_⟩:=ba (b:={ b with now:=x }) (by rw [hf];exact h) (O.now x) hk
  have:i=j:=by omega
  subst this
  rw [e,f]
theorem n8 {b:vY} {t t2 u:Int} {n:Nat} (h:b.first t=some (u,n)) (ht:t≤t2) : b.first t2=some (u,n):=by
 obtain ⟨hn,hst,htl,hu⟩:=bw h
 have q:=c8 (t:=t2) (u:=u) (n:=n) (r:=b.at n) hst htl (by omega) (k:=0) (rs:=b.all) (by rw [gm hn];exact Ja hn)
 rw [Nat.zero_add] at q
 cases h2:b.first t2 with
 | none=>rw [fg h2] at q;cases q
 | some p =>
  obtain ⟨v,m⟩:=p
  obtain ⟨hm,hsm,htm,hv⟩:=bw h2
  have z1:¬ (u<v∨(u=v∧n<m)):=(cx h2).2 _ q
  have q2:=c8 (t:=t) (u:=v) (n:=m) (r:=b.at m) hsm htm (by omega) (k:=0) (rs:=b.all) (by rw [gm hm];exact Ja hm)
  rw [Nat.zero_add] at q2
  have z2:¬ (v<u∨(v=u∧m<n)):=(cx h).2 _ q2
  have e1:v=u:=by omega
  have e2:m=n:=by omega
  rw [e1,e2]
theorem jO {t:Int} : ∀ (k:Nat) (b:vY),b.Ok→wA b.all≤k→wA (b.wj t k).1.all≤wA b.all
 | k,b,O,hk=>by
  cases h:b.first t with
  | none=>rw [bf h];exact Jm _
  | some p =>
   obtain ⟨u,n⟩:=p
   obtain ⟨hn,hst,_⟩:=bw h
   obtain ⟨j,e1,e,hj⟩:=ba h O hk
   have S:=bQ (O.now u) (n:=n) hn
   have z:=gn (b:={ b with now:=u }) (O.now u) (n:=n) hn (by show (b.at n).st≠.gone;rw [hst];decide)
   have z':wA (vY.leave { b with now:=u } n).1.all+1=wA b.all:=z
   have ih:=jO (t:=t) j _ S.ok hj
   rw [e]
   show wA (vY.wj t j (vY.leave { b with now:=u } n).1).1.all≤_
   omega
 termination_by k=>k
theorem iU {t1 t2:Int} (ht:t1≤t2) : ∀ (k:Nat) (b:vY),b.Ok→wA b.all≤k→b.wj t2 k=(((b.wj t1 k).1.wj t2 k).1,(b.wj t1 k).2++((b.wj t1 k).1.wj t2 k).2)
 | k,b,O,hk=>by
  cases h:b.first t1 with
  | none=>rw [bf h];show _=((vY.wj t2 k { b with now:=t1 }).1,[]++(vY.wj t2 k { b with now:=t1 }).2);rw [n6 (x:=t1) O hk];rfl
  | some p =>
   obtain ⟨u,n⟩:=p
   obtain ⟨hn,_⟩:=bw h
   obtain ⟨j,e1,e,hj⟩:=ba h O hk
   obtain ⟨i,f1,f,_⟩:=ba (n8 h ht) O hk
   have:i=j:=by omega
   subst this
   have S:=bQ (O.now u) (n:=n) hn
   have ih:=iU ht i _ S.ok hj
   have C:=dz (t:=t1) i _ S.ok hj
   have L:=jO (t:=t1) i _ S.ok hj
   rw [e,f,ih]
   show _=((vY.wj t2 k (vY.wj t1 i (vY.leave { b with now:=u } n).1).1).1,(_++(vY.wj t1 i (vY.leave { b with now:=u } n).1).2)++(vY.wj t2 k (vY.wj t1 i (vY.leave { b with now:=u } n).1).1).2)
   rw [jN (t:=t2) k i (vY.wj t1 i (vY.leave { b with now:=u } n).1).1 C.1 (by omega) (by omega),Y6]
 termination_by k=>k
theorem qq {t1 t2:Int} {b:vY} (O:b.Ok) (ht:t1≤t2) : b.clock t2=(((b.clock t1).1.clock t2).1,(b.clock t1).2++((b.clock t1).1.clock t2).2):=by
 have C:=dz (t:=t1) _ b O (bg b)
 have L:(b.clock t1).1.all.length=b.all.length:=C.2.2.1
 have z:=iU ht _ b O (bg b)
 show b.wj t2 b.all.length=(((b.clock t1).1.wj t2 (b.clock t1).1.all.length).1,(b.clock t1).2++((b.clock t1).1.wj t2 (b.clock t1).1.all.length).2)
 rw [L]
 exact z
theorem iz {t L:Int} : ∀ (k:Nat) (b:vY),b.Ok→b.Tm→(∀ n u,n<b.all.length→(b.at n).til=some u→L<u)→wA b.all≤k→∀ e∈(b.wj t k).2,L<e.1∧e.1≤t
 | k,b,O,T,hL,hk=>by
  cases h:b.first t with
  | none=>rw [bf h];intro e he;cases he
  | some p =>
   obtain ⟨u,n⟩:=p
   obtain ⟨hn,hst,htl,hu⟩:=bw h
   obtain ⟨j,e1,e,hj⟩:=ba h O hk
   have Ou:=O.now u
   have S:=bQ Ou (n:=n) hn
   have OL:=cW Ou (n:=n) hn
   have hsL:=cv Ou (n:=n) hn
   have nowL:(vY.left { b with now:=u } n).now=u:=by show (vY.unrow _ n).now=u;rw [iF]
   have h1:=hL n u hn htl
   have ih:=iz (t:=t) (L:=L) j (vY.leave { b with now:=u } n).1 S.ok ((T.at_ O h).leave Ou hn) (fun m v hm hv=>by
    have hm':m<b.all.length:=by rw [S.len] at hm;exact hm
    have q:=qp OL hsL m
    rw [nowL,uQ (b:={ b with now:=u }) hn] at q
    have hsp:=(T.sp m hm').1
    have eb:({ b with now:=u } : vY).at m=b.at m:=rfl
    have en:({ b with now:=u } : vY).at n=b.at n:=rfl
    rw [eb,en] at q
    have hv':((vY.serve (vY.left { b with now:=u } n) (b.at n).shw).1.at m).til=some v:=hv
    have q1:(((vY.left { b with now:=u } n).serve (b.at n).shw).1.at m).til=_∨(((vY.left { b with now:=u } n).serve (b.at n).shw).1.at m).til=_:=q.1
    rw [hv'] at q1
    by_cases e9:m=n
    ·rw [J3 e9] at q1
     rcases q1 with q1 | q1
     ·cases q1
     ·have:=Option.some.inj q1
      have e8:((b.at n).go).span=(b.at n).span:=rfl
      rw [e8] at this
      have:=(T.sp n hn).1
      omega
    ·rw [J0 e9] at q1
     rcases q1 with q1 | q1
     ·exact hL m v hm' q1.symm
     ·have:=Option.some.inj q1
      omega) hj
   rw [e]
   intro x hx
   rcases Y1.mp hx with hx | hx
   ·rcases List.mem_cons.mp hx with hx | hx
    ·rw [hx];exact ⟨h1,hu⟩
    ·obtain ⟨m,_,rfl⟩:=Yj.mp hx
     exact ⟨h1,hu⟩
   ·exact ih x hx
 termination_by k=>k
theorem jP {t:Int} : ∀ (k:Nat) (b:vY),b.Ok→wA b.all≤k→∀ n u,n<b.all.length→((b.wj t k).1.at n).til=some u→t<u
 | k,b,O,hk=>by
  cases h:b.first t with
  | none=>rw [bf h];exact fun n u hn hu=>jL O h hn hu
  | some p =>
   obtain ⟨u,n⟩:=p
   obtain ⟨hn,hst,htl,hu⟩:=bw h
   obtain ⟨j,e1,e,hj⟩:=ba h O hk
   have S:=bQ (O.now u) (n:=n) hn
   rw [e]
   intro m v hm hv
   exact jP (t:=t) j _ S.ok hj m v (by rw [S.len];exact hm) hv
 termination_by k=>k
end Kp
namespace Kp
open PySem L2
def yg (a t:Int) : List Int:=((List.range (min t (a+13)-(a+1)).toNat).map fun i=>a+1+((i:Nat) : Int))++[t]
def grp (a:Int) : wd→List wd
 | .clock t=>if a<t then (yg a t).map wd.clock else [.clock t]
 | d=>[d]
def nxt (a:Int) : wd→Int
 | .clock t=>if a<t then t else a
 | _=>a
def grps:Int→List wd→List (List wd)
 | _,[]=>[]
 | a,d::ds=>grp a d::grps (nxt a d) ds
def xg:Int→List wd→Int
 | a,[]=>a
 | a,d::ds=>xg (nxt a d) ds
theorem fP:∀ (xs ys:List wd) (a:Int),grps a (xs++ys)=grps a xs++grps (xg a xs) ys
 | [],_,_=>rfl
 | x::xs,ys,a=>by
  show grp a x::grps (nxt a x) (xs++ys)=grp a x::grps (nxt a x) xs++grps (xg (nxt a x) xs) ys
  rw [fP xs ys]
  rfl
theorem mV:∀ (xs ys:List wd) (a:Int),xg a (xs++ys)=xg (xg a xs) ys
 | [],_,_=>rfl
 | x::xs,ys,a=>mV xs ys (nxt a x)
theorem ft {b:vY} {t:Int} (h:b.now≤t) : b.done (.clock t)=((b.clock t).1,w9 (b.clock t).2):=by
 show (if t<b.now then _ else _)=_
 rw [J0 (by omega)]
theorem oG {b:vY} (O:b.Ok) (d:wd) : (b.done d).1.now=nxt b.now d:=by
 cases d with
 | clock t =>
  show (if t<b.now then _ else _:vY × Dt).1.now=(if b.now<t then t else b.now)
  by_cases c:t<b.now
  ·rw [J3 c,J0 (by omega)]
  ·rw [J0 c]
   have e:(b.clock t).1.now=t:=(dz _ b O (bg b)).2.2.2
   show (b.clock t).1.now=_
   rw [e]
   by_cases c2:b.now<t
   ·rw [J3 c2]
   ·rw [J0 c2];omega
 | keep w s m p=>rcases c6 O (.keep w s m p) with e | ⟨t,e,_⟩;exact e;cases e
 | take n=>rcases c6 O (.take n) with e | ⟨t,e,_⟩;exact e;cases e
 | back n=>rcases c6 O (.back n) with e | ⟨t,e,_⟩;exact e;cases e
 | part n m=>rcases c6 O (.part n m) with e | ⟨t,e,_⟩;exact e;cases e
 | move n s=>rcases c6 O (.move n s) with e | ⟨t,e,_⟩;exact e;cases e
 | pass n w=>rcases c6 O (.pass n w) with e | ⟨t,e,_⟩;exact e;cases e
 | free s=>rcases c6 O (.free s) with e | ⟨t,e,_⟩;exact e;cases e
 | row s=>rcases c6 O (.row s) with e | ⟨t,e,_⟩;exact e;cases e
 | state n=>rcases c6 O (.state n) with e | ⟨t,e,_⟩;exact e;cases e
theorem jQ:∀ (ds:List wd) (b:vY),b.Ok→(b.run ds).1.now=xg b.now ds
 | [],_,_=>rfl
 | d::ds,b,O=>by
  rw [cG]
  show ((b.done d).1.run ds).1.now=xg (nxt b.now d) ds
  rw [jQ ds _ (di O d).ok,oG O]
theorem oH {b:vY} (O:b.Ok) (T:b.Tm) : ∀ n:Nat,∃ (c:vY) (ts:List Told),b.run ((List.range n).map fun i=>wd.clock (b.now+1+((i:Nat) : Int)))=(c,ts.map w9)∧ts.length=n∧c.Ok∧c.Tm∧c.now=b.now+n ∧
  (0<n→∀ m u,m<c.all.length→(c.at m).til=some u→b.now+n<u)∧(∀ t,b.now+n≤t→b.clock t=((c.clock t).1,ts.flatten++(c.clock t).2)) ∧
  ∀ i es,ts[i]? = some es→∀ e∈es,e.1≤b.now+1+((i:Nat) : Int)∧(0<i→b.now+((i:Nat) : Int)<e.1)
 | 0=>⟨b,[],rfl,rfl,O,T,by simp,fun h=>absurd h (Nat.lt_irrefl _),fun t _=>rfl,fun i es h=>by cases h⟩
 | n+1=>by
  obtain ⟨c,ts,h1,h2,h3,h4,h5,h6,h7,h8⟩:=oH O T n
  have hu:c.now≤b.now+1+((n:Nat) : Int):=by omega
  have C:=dz (t:=b.now+1+((n:Nat) : Int)) _ c h3 (bg c)
  have R:=jP (t:=b.now+1+((n:Nat) : Int)) _ c h3 (bg c)
  have key:∀ e∈(c.clock (b.now+1+((n:Nat) : Int))).2,e.1≤b.now+1+((n:Nat) : Int)∧(0<n→b.now+((n:Nat) : Int)<e.1):=fun e he=>by
   have z:=iz (t:=b.now+1+((n:Nat) : Int)) (L:=c.now-1) _ c h3 h4 (fun m u hm hu=>by have:=h4.lo m u hm hu;omega) (bg c) e he
   refine ⟨z.2,fun hn=>?_⟩
   exact (iz (t:=b.now+1+((n:Nat) : Int)) (L:=b.now+n) _ c h3 h4 (h6 hn) (bg c) e he).1
  refine ⟨(c.clock (b.now+1+((n:Nat) : Int))).1,ts++[(c.clock (b.now+1+((n:Nat) : Int))).2],?_,by rw [Jc,h2];rfl,C.1,jM _ c h3 h4 hu (bg c),by rw [show (c.clock (b.now+1+((n:Nat) : Int))).1.now=_ from C.2.2.2];omega,fun _ m u hm hu=>?_,fun t ht=>?_,fun i es hi e he=>?_⟩
  ·rw [List.range_succ,Jz,List.map_cons,List.map_nil,ek,h1,ft hu,Jz]
   rfl
  ·have hm':m<c.all.length:=by have:=C.2.2.1;have e:(c.clock (b.now+1+((n:Nat) : Int))).1.all.length=c.all.length:=this;omega
   have:=R m u hm' hu
   omega
  ·rw [h7 t (by omega),qq (t1:=b.now+1+((n:Nat) : Int)) (t2:=t) h3 (by omega),List.flatten_append,Y6]
   simp
  ·by_cases c1:i<n
   ·rw [List.getElem?_append_left (by omega)] at hi
    exact h8 i es hi e he
   ·by_cases c2:i=n
    ·subst c2
     rw [Yg (by omega),h2,Nat.sub_self] at hi
     cases hi
     exact key e he
    ·rw [Yg (by omega),h2] at hi
     obtain ⟨z,hz⟩ : ∃ z,i-n=z+1:=⟨i-n-1,by omega⟩
     rw [hz] at hi
     cases hi
theorem lT (a t:Int) : (yg a t).length=(min t (a+13)-(a+1)).toNat+1:=by unfold yg;simp
theorem vU (a t:Int) : (yg a t).length≤13:=by rw [lT];omega
theorem oJ {b:vY} (O:b.Ok) (T:b.Tm) {t:Int} (h:b.now<t) : ∃ ts:List Told,b.run ((yg b.now t).map wd.clock)=((b.clock t).1,ts.map w9)∧ts.length=(yg b.now t).length∧ts.flatten=(b.clock t).2 ∧
  ∀ i es,ts[i]? = some es→∀ e∈es,(∃ u,(yg b.now t)[i]? = some u∧e.1≤u)∧∀ j,i=j+1→∃ u,(yg b.now t)[j]? = some u∧u<e.1:=by
 obtain ⟨c,ts,h1,h2,h3,h4,h5,h6,h7,h8⟩:=oH O T (min t (b.now+13)-(b.now+1)).toNat
 have hl:=lT b.now t
 unfold yg at hl ⊢
 generalize hn:(min t (b.now+13)-(b.now+1)).toNat=n at h1 h2 h5 h6 h7 hl ⊢
 have hnt:b.now+n<t:=by omega
 have key:∀ e∈(c.clock t).2,e.1≤t∧(0<n→b.now+((n:Nat) : Int)<e.1):=fun e he=>by
  have z:=iz (t:=t) (L:=c.now-1) _ c h3 h4 (fun m u hm hu=>by have:=h4.lo m u hm hu;omega) (bg c) e he
  refine ⟨z.2,fun hn=>?_⟩
  exact (iz (t:=t) (L:=b.now+n) _ c h3 h4 (h6 hn) (bg c) e he).1
 have hc:=h7 t (by omega)
 have get:∀ i,i<n→(((List.range n).map fun i=>b.now+1+((i:Nat) : Int))++[t])[i]? = some (b.now+1+((i:Nat) : Int)):=fun i hi=>by
  rw [List.getElem?_append_left (by simpa using hi),Jw,List.getElem?_range hi]
  rfl
 refine ⟨ts++[(c.clock t).2],?_,by rw [hl,Jc,h2];rfl,by rw [hc,List.flatten_append];simp,fun i es hi e he=>?_⟩
 ·rw [Jz,List.map_map,List.map_cons,List.map_nil]
  show b.run (((List.range n).map fun i=>wd.clock (b.now+1+((i:Nat) : Int)))++[wd.clock t])=_
  rw [ek,h1,ft (b:=c) (by omega),hc,Jz]
  rfl
 ·by_cases c1:i<n
  ·rw [List.getElem?_append_left (by omega)] at hi
   obtain ⟨q1,q2⟩:=h8 i es hi e he
   refine ⟨⟨_,get i c1,q1⟩,fun j hj=>⟨_,get j (by omega),?_⟩⟩
   have:=q2 (by omega)
   omega
  ·by_cases c2:i=n
   ·subst c2
    rw [Yg (by omega),h2,Nat.sub_self] at hi
    cases hi
    obtain ⟨q1,q2⟩:=key e he
    refine ⟨⟨t,?_,q1⟩,fun j hj=>⟨_,get j (by omega),?_⟩⟩
    ·rw [Yg (by simp),J9,Yh,Nat.sub_self]
     rfl
    ·have:=q2 (by omega)
     omega
   ·rw [Yg (by omega),h2] at hi
    obtain ⟨z,hz⟩ : ∃ z,i-n=z+1:=⟨i-n-1,by omega⟩
    rw [hz] at hi
    cases hi
theorem oK (b:vY) (d:wd) : b.run [d]=((b.done d).1,[(b.done d).2]):=rfl
theorem dY {a:Int} {d:wd} (h:∀ t,d=.clock t→¬ a<t) : grp a d=[d]:=by
 cases d with
 | clock t=>show (if a<t then _ else _)=_;rw [J0 (h t rfl)]
 | _=>rfl
theorem uR {b:vY} (O:b.Ok) (T:b.Tm) (d:wd) : (b.run (grp b.now d)).1=(b.done d).1:=by
 by_cases h:∃ t,d=.clock t∧b.now<t
 ·obtain ⟨t,rfl,ht⟩:=h
  obtain ⟨ts,e,_⟩:=oJ O T ht
  show (b.run (if b.now<t then _ else _)).1=_
  rw [J3 ht,e,ft (by omega)]
 ·rw [dY fun t e c=>h ⟨t,e,c⟩,oK]
theorem jR:∀ (ds:List wd) (b:vY),b.Ok→b.Tm→(∀ dd∈ds,dd.fine)→(b.run (grps b.now ds).flatten).1=(b.run ds).1
 | [],_,_,_,_=>rfl
 | d::ds,b,O,T,hf=>by
  show (b.run (grp b.now d++(grps (nxt b.now d) ds).flatten)).1=_
  rw [iy,uR O T,cG,← oG O d]
  exact jR ds _ (di O d).ok (n5 [d] b O T fun x hx=>hf x (by rw [Y5.mp hx];exact Jb)) fun x hx=>hf x (Jd _ hx)
theorem tR (ds:List wd) (a:Int) {k:Nat} (hk:k<ds.length) : (grps a ds).flatten=(grps a (ds.take k)).flatten++(grp (xg a (ds.take k)) ds[k]++(grps (nxt (xg a (ds.take k)) ds[k]) (ds.drop (k+1))).flatten):=by
 have e:ds=ds.take k++ds[k]::ds.drop (k+1):=by rw [← List.drop_eq_getElem_cons hk,List.take_append_drop]
 have e2:grps a ds=grps a (ds.take k)++grps (xg a (ds.take k)) (ds[k]::ds.drop (k+1)):=by rw [← fP,← e]
 rw [e2,List.flatten_append]
 rfl
theorem jS:∀ (ds:List wd) (a:Int),(grps a ds).length=ds.length
 | [],_=>rfl
 | _::ds,_=>by show (grps _ ds).length+1=_;rw [jS ds];rfl
theorem tS (ds:List wd) (a:Int) {k:Nat} (hk:k<ds.length) : (grps a ds)[k]? = some (grp (xg a (ds.take k)) ds[k]):=by
 have e:ds=ds.take k++ds[k]::ds.drop (k+1):=by rw [← List.drop_eq_getElem_cons hk,List.take_append_drop]
 have e2:grps a ds=grps a (ds.take k)++grps (xg a (ds.take k)) (ds[k]::ds.drop (k+1)):=by rw [← fP,← e]
 have l:(grps a (ds.take k)).length=k:=by rw [jS,Y4];omega
 rw [e2,Yg (by omega),l,Nat.sub_self]
 rfl
theorem uS {ds:List wd} {b:vY} (O:b.Ok) (T:b.Tm) (hf:∀ dd∈ds,dd.fine) {k:Nat} (hk:k<ds.length) {j:Nat} (hj:j<(grp (b.run (ds.take k)).1.now ds[k]).length) :
  (b.run (grps b.now ds).flatten).2[(grps b.now (ds.take k)).flatten.length+j]? = ((b.run (ds.take k)).1.run (grp (b.run (ds.take k)).1.now ds[k])).2[j]? ∧ (grps b.now ds).flatten[(grps b.now (ds.take k)).flatten.length+j]? = (grp (b.run (ds.take k)).1.now ds[k])[j]?:=by
 rw [tR ds b.now hk,iy,jR _ b O T fun d hd=>hf d (List.mem_of_mem_take hd),jQ _ b O] at *
 constructor
 ·show ((b.run (grps b.now (ds.take k)).flatten).2++_)[_]? = _
  rw [Yg (by rw [c7];omega),c7,Nat.add_sub_cancel_left,iy]
  show ((((b.run (ds.take k)).1.run _).2)++_)[j]? = _
  rw [List.getElem?_append_left (by rw [c7];exact hj)]
 ·rw [Yg (by omega),Nat.add_sub_cancel_left,List.getElem?_append_left hj]
theorem j3 (ds:List wd) (a:Int) {k:Nat} (hk:k<ds.length) : (grps a (ds.take (k+1))).flatten.length=(grps a (ds.take k)).flatten.length+(grp (xg a (ds.take k)) ds[k]).length:=by
 have e:ds.take (k+1)=ds.take k++[ds[k]]:=bp (Ja hk)
 rw [e,fP,List.flatten_append,Jc]
 show _+(grp _ _++[]).length=_
 rw [List.append_nil]
def wd.isK:wd→Bool
 | .keep ..=>true
 | _=>false
theorem uT {b:vY} (O:b.Ok) (d:wd) : (b.done d).1.all.length≤b.all.length+(if d.isK=true then 1 else 0):=by
 cases d with
 | keep w s m p=>exact (di O (.keep w s m p)).grow
 | take n=>exact Nat.le_of_eq (c5 O (dd:=.take n) trivial)
 | back n=>exact Nat.le_of_eq (c5 O (dd:=.back n) trivial)
 | part n m=>exact Nat.le_of_eq (c5 O (dd:=.part n m) trivial)
 | move n s=>exact Nat.le_of_eq (c5 O (dd:=.move n s) trivial)
 | pass n w=>exact Nat.le_of_eq (c5 O (dd:=.pass n w) trivial)
 | clock t=>exact Nat.le_of_eq (c5 O (dd:=.clock t) trivial)
 | free s=>exact Nat.le_of_eq (c5 O (dd:=.free s) trivial)
 | row s=>exact Nat.le_of_eq (c5 O (dd:=.row s) trivial)
 | state n=>exact Nat.le_of_eq (c5 O (dd:=.state n) trivial)
theorem tU:∀ (ds:List wd) (b:vY),b.Ok→b.all.length+ds.countP wd.isK<64→(b.run ds).1.all.length≤b.all.length+ds.countP wd.isK∧xc (b.run ds).2≤16400*ds.length
 | [],b,_,_=>⟨Jm _,by show xc []≤_;rw [eR];exact Nat.zero_le _⟩
 | d::ds,b,O,h=>by
  rw [List.countP_cons] at h ⊢
  have z:=kB O (by omega) d
  have g:=uT O d
  obtain ⟨h1,h2⟩:=tU ds (b.done d).1 (di O d).ok (by omega)
  rw [cG]
  refine ⟨?_,?_⟩
  ·show ((b.done d).1.run ds).1.all.length≤_
   omega
  ·show xc (_::_)≤_
   rw [bc,Jy]
   omega
theorem grp_k (a:Int) (d:wd) : (grp a d).countP wd.isK=if d.isK=true then 1 else 0:=by
 by_cases h:∃ t,d=.clock t∧a<t
 ·obtain ⟨t,rfl,ht⟩:=h
  show (if a<t then _ else _:List wd).countP _=0
  rw [J3 ht,List.countP_eq_zero]
  intro x hx
  obtain ⟨u,_,rfl⟩:=Yj.mp hx
  exact Jn
 ·rw [dY fun t e c=>h ⟨t,e,c⟩,List.countP_singleton]
theorem tV:∀ (ds:List wd) (a:Int),(grps a ds).flatten.countP wd.isK=ds.countP wd.isK
 | [],_=>rfl
 | d::ds,a=>by
  show (grp a d++(grps (nxt a d) ds).flatten).countP _=_
  rw [List.countP_append,grp_k,tV ds,List.countP_cons]
  omega
theorem lU (a:Int) (d:wd) : 1≤(grp a d).length∧(grp a d).length≤13:=by
 by_cases h:∃ t,d=.clock t∧a<t
 ·obtain ⟨t,rfl,ht⟩:=h
  show 1≤(if a<t then _ else _:List wd).length∧(if a<t then _ else _:List wd).length≤13
  rw [J3 ht,J9]
  exact ⟨by rw [lT];omega,vU a t⟩
 ·rw [dY fun t e c=>h ⟨t,e,c⟩];exact ⟨Jm 1,(by decide : 1≤13)⟩
theorem iA:∀ (ds:List wd) (a:Int),(grps a ds).flatten.length≤13*ds.length
 | [],_=>Jm _
 | d::ds,a=>by
  show (grp a d++(grps (nxt a d) ds).flatten).length≤_
  rw [Jc,Jy]
  have:=(lU a d).2
  have:=iA ds (nxt a d)
  omega
theorem lV {ds:List wd} {rooms:List Int} (h:ds.countP wd.isK≤44) (i:Nat) : ((vY.begun rooms).run (ds.take i)).1.all.length<64:=by
 have z:(ds.take i).countP wd.isK≤ds.countP wd.isK:=(List.take_sublist i ds).countP_le
 have:=(tU (ds.take i) (vY.begun rooms) (cH rooms) (by show 0+_<64;omega)).1
 have:((vY.begun rooms).run (ds.take i)).1.all.length≤0+_:=this
 omega
end Kp
namespace Kp
open PySem L2
abbrev zw:Stmt:=top 48
structure By (H H5:Hp) (lo sz:Addr) (qs:List Addr) (ds:List wd) (ns:List Int) : Prop where
 same:wm H H5
 nlo:H lo=none
 nsz:H sz=none
 ne:lo≠sz
 lst:H5 lo=some (.lst (qs.map V.ref))
 szs:H5 sz=some (.lst (ns.map V.int))
 each:Each (fun p dd=>H5 p=some (.tup dd.vs)) qs ds
theorem By.more {H H5 H6:Hp} {lo sz:Addr} {qs:List Addr} {ds:List wd} {ns:List Int} (B:By H H5 lo sz qs ds ns) (g:wm H5 H6) : By H H6 lo sz qs ds ns :=
 ⟨B.same.trans g,B.nlo,B.nsz,B.ne,g _ _ B.lst,g _ _ B.szs,B.each.mono fun _ _ _ h=>g _ _ h⟩
theorem By.push {H H5:Hp} {lo sz:Addr} {qs:List Addr} {ds:List wd} {ns:List Int} (B:By H H5 lo sz qs ds ns) {p:Addr} {dd:wd} (hp:H5 p=some (.tup dd.vs)) :
  By H (upd H5 lo (.lst (qs.map V.ref++[.ref p]))) lo sz (qs++[p]) (ds++[dd]) ns:=by
 have ne:∀ {q:Addr} {xs:List V},H5 q=some (.tup xs)→q≠lo:=fun h=>bS h B.lst (by intro z;cases z)
 exact ⟨bx B.same B.nlo _,B.nlo,B.nsz,B.ne,by rw [af,Jz];rfl,by rw [ao (Ne.symm B.ne)];exact B.szs,Each.snoc (B.each.mono fun _ _ _ h=>by rw [ao (ne h)];exact h) (by rw [ao (ne hp)];exact hp)⟩
theorem By.size {H H5:Hp} {lo sz:Addr} {qs:List Addr} {ds:List wd} {ns:List Int} (B:By H H5 lo sz qs ds ns) (n:Int) :
  By H (upd H5 sz (.lst (ns.map V.int++[.int n]))) lo sz qs ds (ns++[n]):=by
 have ne:∀ {q:Addr} {xs:List V},H5 q=some (.tup xs)→q≠sz:=fun h=>bS h B.szs (by intro z;cases z)
 exact ⟨bx B.same B.nsz _,B.nlo,B.nsz,B.ne,by rw [ao B.ne];exact B.lst,by rw [af,Jz];rfl,B.each.mono fun _ _ _ h=>by rw [ao (ne h)];exact h⟩
def Aq:Sp:=fun vs H Q _=>∃ (l:Addr) (ps:List Addr) (dds:List wd),vs=[.ref l]∧H l=some (.lst (ps.map V.ref))∧Each (fun p dd=>H p=some (.tup dd.vs)) ps dds∧dds.length≤63 ∧
 ∀ (H':Hp) (t lo sz:Addr) (qs:List Addr),wm H H'→H' t=some (.tup [.ref lo,.ref sz])→H' lo=some (.lst (qs.map V.ref))→H' sz=some (.lst (((grps 0 dds).map fun g=>((g.length:Nat) : Int)).map V.int))→Each (fun p dd=>H' p=some (.tup dd.vs)) qs (grps 0 dds).flatten→Q (.ref t) H'
theorem vV (a t:Int) : (if a+13<t then a+13 else t)=min t (a+13):=by
 by_cases c:a+13<t
 ·rw [J3 c];omega
 ·rw [J0 c];omega
theorem kK {a t:Int} (h:a<t) : grp a (.clock t)=((List.range (min t (a+13)-(a+1)).toNat).map fun i=>wd.clock (a+1+((i:Nat) : Int)))++[.clock t]:=by
 show (if a<t then _ else _)=_
 rw [J3 h]
 unfold yg
 rw [Jz,List.map_map]
 rfl
theorem qr {dds:List wd} {i:Nat} (hi:i<dds.length) : grps 0 (dds.take (i+1))=grps 0 (dds.take i)++[grp (xg 0 (dds.take i)) dds[i]]∧xg 0 (dds.take (i+1))=nxt (xg 0 (dds.take i)) dds[i]:=by
 have e:dds.take (i+1)=dds.take i++[dds[i]]:=bp (Ja hi)
 rw [e,fP,mV]
 exact ⟨rfl,rfl⟩
section
variable {P:Program} {w:World} {K:Ay} {mg:Str→Option Value} {base:Heap}
theorem bB:wb ["_law_asked","_law_longer","_law_sizes","_law_now","_law_deed","_law_size","_law_time"] ["_law_asked"] (vZ zw):=L2.wy rfl rfl rfl rfl (by decide +kernel)
theorem qt {f:Addr} {fd:FuncData} (F:Fun K "_law_by_one" "_law_by_one" zw f fd) (T:Blt mg) : we P w K mg base CX0 1 f fd ["_law_asked"] Aq:=by
 refine F.ok bB (fun vs H Q E h=>?_) (fun cdv A outer s H vs Q E hr h=>?_)
 ·obtain ⟨l,ps,dds,rfl,_⟩:=h
  rfl
 obtain ⟨l,ps,dds,rfl,hl,he,h63,k⟩:=h
 refine ⟨_,    (ae
 (aC (i:=1) bB.nd rfl (Or.inl rfl) (a0 aj))
 (ae
 (aC (i:=2) bB.nd rfl (Or.inl rfl) (a0 aj))
 (ae
 (aC (i:=3) bB.nd rfl (Or.inl rfl) ag)
 (ae
 (bU PassesOwn.never rfl (bC (pv 0)) (aO (i:=4) bB.nd rfl (Or.inl rfl))
 (ae
 (aC (i:=5) bB.nd rfl (Or.inl rfl) ag)
 (dh
 (aH (PW.pt (iB (au bb (ax aK (pv 4) ag (fun _ _=>rfl)) ay (wa _)) (fS (au fW (ax aK (pv 4) ag (fun _ _=>rfl)) (pv 3) (wa _)))))
 (ae
 (bU PassesOwn.never rfl (jK rfl T.range (aa (az bh (pv 3) ag) (aa (aJ (oU rfl) rfl T.min qS (aa (ax aK (pv 4) ag (fun _ _=>rfl)) (aa (az bh (pv 3) ag) aj))) aj))) (aO (i:=6) bB.nd rfl (Or.inl rfl))
 (ae
 (aF (bP Jl Jq Jr aX (pv 1) (aa (bu (aa ay (aa (pv 6) aj))) aj)))
 (ak
 (aC (i:=5) bB.nd rfl (Or.inl rfl) (az bh (pv 5) ag)))))
 (ak
 (aC (i:=3) bB.nd rfl (Or.inl rfl) (ax aK (pv 4) ag (fun _ _=>rfl)))))
 aB)
 (ae
 (aF (bP Jl Jq Jr aX (pv 1) (aa (pv 4) aj)))
 (ak
 (aF (bP Jl Jq Jr aX (pv 2) (aa (pv 5) aj))))))))
 (ak
 (aA (bu (aa (pv 1) (aa (pv 2) aj))))))))),?_⟩
 refine ⟨(by show 0≤sizeLine;decide),fun lo hlo=>?_⟩
 have g1:=ai hlo (.lst [])
 have e1:(upd H lo (.lst [])) lo=some (.lst []):=af
 generalize upd H lo (.lst [])=H1 at g1 e1
 refine ⟨(by show 0≤sizeLine;decide),fun sz hsz=>?_⟩
 have g2:=ai hsz (.lst [])
 have e2:(upd H1 sz (.lst [])) sz=some (.lst []):=af
 have nls:lo≠sz:=fun e=>by rw [← e,e1] at hsz;cases hsz
 generalize upd H1 sz (.lst [])=H2 at g2 e2
 have B0:By H H2 lo sz [] [] []:=⟨g1.trans g2,hlo,g1.free hsz,nls,g2 _ _ e1,e2,Each.nil⟩
 have hdl:ps.length=dds.length:=he.len
 refine ⟨_,rfl,l,rfl,⟨_,SqL.of (B0.same _ _ hl)⟩,bZ (K:=K) (a:=l) (xs:=ps.map V.ref) (fun i σ H5=>∃ (v4 v5 v6:Option V) (qs:List Addr),σ=[some (.ref l),some (.ref lo),some (.ref sz),some (.int (xg 0 (dds.take i))),v4,v5,v6]∧By H H5 lo sz qs (grps 0 (dds.take i)).flatten ((grps 0 (dds.take i)).map fun g=>((g.length:Nat) : Int)))
  ⟨none,none,none,[],rfl,B0⟩ (fun i σ H5 _ ⟨_,_,_,_,_,B⟩=>SqL.of (B.same _ _ hl)) ?_ ?_⟩
 ·rintro i x σ H5 hi ⟨v4,v5,v6,qs,rfl,B⟩
  rw [Jw] at hi
  cases ei:ps[i]? with
  | none=>rw [ei] at hi;cases hi
  | some p =>
   rw [ei] at hi
   cases hi
   have hid:i<dds.length:=by rw [← hdl];exact (Jg.mp ei).1
   have hp:=B.same _ _ (he.at_ i p dds[i] ei (Ja hid))
   obtain ⟨en,em⟩:=qr hid
   have lq:qs.length≤13*i:=by
    have h1:qs.length=_:=B.each.len
    have h2:=iA (dds.take i) 0
    rw [Y4] at h2
    omega
   have lz:((grps 0 (dds.take i)).map fun g=>((g.length:Nat) : Int)).length=i:=by rw [J9,jS,Y4];omega
   generalize hnow:xg 0 (dds.take i)=now at B en em ⊢
   generalize hds:(grps 0 (dds.take i)).flatten=ds0 at B
   generalize hns:((grps 0 (dds.take i)).map fun g=>((g.length:Nat) : Int))=ns0 at B lz
   refine ⟨fun σ H6=>∃ (v6:Option V) (qs6:List Addr) (pre:List wd),σ=[some (.ref l),some (.ref lo),some (.ref sz),some (.int (nxt now dds[i])),some (.ref p),some (.int (((pre.length+1:Nat)) : Int)),v6]∧grp now dds[i]=pre++[dds[i]]∧By H H6 lo sz qs6 (ds0++pre) ns0,?_,?_⟩
   ·have stay:∀ (hn:∀ t,dds[i]=.clock t→¬ now<t),∃ (v6':Option V) (qs6:List Addr) (pre:List wd),([some (.ref l),some (.ref lo),some (.ref sz),some (.int now),some (.ref p),some (.int 1),v6] : St)=[some (.ref l),some (.ref lo),some (.ref sz),some (.int (nxt now dds[i])),some (.ref p),some (.int (((pre.length+1:Nat)) : Int)),v6']∧grp now dds[i]=pre++[dds[i]]∧By H H5 lo sz qs6 (ds0++pre) ns0:=fun hn=>by
     refine ⟨v6,qs,[],?_,dY hn,by rw [List.append_nil];exact B⟩
     have:nxt now dds[i]=now:=by
      cases hd:dds[i] with
      | clock t=>show (if now<t then t else now)=now;rw [J0 (hn t hd)]
      | _=>rfl
     rw [this]
     rfl
    by_cases hc:∃ t,dds[i]=.clock t
    ·obtain ⟨t,ht⟩:=hc
     rw [ht] at hp
     refine ⟨_,rfl,p,_,_,_,rfl,rfl,SqT.of hp,rfl,rfl,_,rfl,ifT (by decide +kernel) ?_⟩
     refine ⟨_,rfl,p,_,_,_,rfl,rfl,SqT.of hp,rfl,_,rfl,_,_,rfl,rfl,_,rfl,?_⟩
     refine wx (fun c=>?_) (fun c=>stay fun u hu z=>c (Je (by rw [ht] at hu;cases hu;exact z)))
     have hlt:now<t:=Ji c
     refine ⟨_,rfl,_,_,rfl,rfl,_,rfl,p,_,_,_,rfl,rfl,SqT.of hp,rfl,_,rfl,_,_,rfl,rfl,_,_,rfl,_,_,rfl,?_⟩
     rw [vV]
     refine cO (lo:=now+1) (n:=(min t (now+13)-(now+1)).toNat) (fun j σ H6=>∃ (v6:Option V) (qs6:List Addr),σ=[some (.ref l),some (.ref lo),some (.ref sz),some (.int now),some (.ref p),some (.int (((j+1:Nat)) : Int)),v6]∧By H H6 lo sz qs6 (ds0++(List.range j).map fun i=>wd.clock (now+1+((i:Nat) : Int))) ns0) ⟨v6,qs,rfl,by rw [List.range_zero,List.map_nil,List.append_nil];exact B⟩ ?_ ?_
     ·rintro j σ H6 hj ⟨v6,qs6,rfl,B6⟩
      have lq6:qs6.length≤2000:=by
       have h1:qs6.length=_:=B6.each.len
       have h3:qs.length=_:=B.each.len
       rw [Jc,J9,Yh] at h1
       omega
      refine ⟨_,rfl,.inl ⟨rfl,_,SqL.of B6.lst⟩,_,rfl,(by show 2≤sizeLine;decide),fun q hq=>?_⟩
      have gq:=ai hq (.tup (wd.clock (now+1+((j:Nat) : Int))).vs)
      have hq7:(upd H6 q (.tup (wd.clock (now+1+((j:Nat) : Int))).vs)) q=some (.tup (wd.clock (now+1+((j:Nat) : Int))).vs):=af
      refine wz (H':=upd H6 q (.tup (wd.clock (now+1+((j:Nat) : Int))).vs)) rfl ?_
      generalize upd H6 q (.tup (wd.clock (now+1+((j:Nat) : Int))).vs)=H7 at gq hq7
      have B7:=B6.more gq
      refine ⟨lo,_,_,rfl,rfl,B7.lst,big (by rw [J9];omega),?_⟩
      refine ⟨_,rfl,_,_,rfl,rfl,_,qs6++[q],rfl,?_⟩
      rw [List.range_succ,Jz,← Y6]
      exact B7.push hq7
     ·rintro σ H6 ⟨v6,qs6,rfl,B6⟩
      have hp6:=B6.same _ _ (he.at_ i p dds[i] ei (Ja hid))
      rw [ht] at hp6
      refine ⟨_,rfl,p,_,_,_,rfl,rfl,SqT.of hp6,rfl,?_⟩
      refine ⟨v6,qs6,_,?_,by rw [ht];exact kK hlt,B6⟩
      have:nxt now dds[i]=t:=by rw [ht];show (if now<t then t else now)=t;rw [J3 hlt]
      rw [this,J9,Yh]
      rfl
    ·have hne:∀ t,dds[i]≠.clock t:=fun t e=>hc ⟨t,e⟩
     have fin:=stay fun t e=>absurd e (hne t)
     generalize dds[i]=dd at hp hne fin ⊢
     cases dd with
     | clock t=>exact absurd rfl (hne t)
     | _=>exact ⟨_,rfl,p,_,_,_,rfl,rfl,SqT.of hp,rfl,rfl,_,rfl,ifF (by decide +kernel) (yo fin)⟩
   rintro σ H6 ⟨v6,qs6,pre,rfl,eg,B6⟩
   have hp6:=B6.same _ _ (he.at_ i p dds[i] ei (Ja hid))
   have lpre:pre.length≤12:=by have:=(lU now dds[i]).2;rw [eg,Jc] at this;have:pre.length+1≤13:=this;omega
   have lq6:qs6.length≤2000:=by
    have h1:qs6.length=_:=B6.each.len
    have h3:qs.length=_:=B.each.len
    rw [Jc] at h1
    omega
   refine ⟨_,rfl,.inl ⟨rfl,_,SqL.of B6.lst⟩,_,rfl,lo,_,_,rfl,rfl,B6.lst,big (by rw [J9];omega),?_⟩
   have B7:=B6.push hp6
   generalize upd H6 lo (.lst (qs6.map V.ref++[.ref p]))=H7 at B7
   refine ⟨_,rfl,.inl ⟨rfl,_,SqL.of B7.szs⟩,_,rfl,sz,_,_,rfl,rfl,B7.szs,big (by rw [J9];omega),?_⟩
   have B8:=B7.size ((pre.length+1:Nat) : Int)
   refine ⟨some (.ref p),some (.int ((pre.length+1:Nat) : Int)),v6,qs6++[p],?_,?_⟩
   ·rw [em]
   ·rw [en,List.flatten_append,Jz,hds,hns,eg]
    have e1 : [pre++[dds[i]]].flatten=pre++[dds[i]]:=by simp
    rw [e1,← Y6]
    have e2:([pre++[dds[i]]].map fun g=>((g.length:Nat) : Int))=[((pre.length+1:Nat) : Int)]:=by simp
    rw [e2]
    exact B8
 rintro σ H5 ⟨v4,v5,v6,qs,rfl,B⟩
 rw [J9,hdl,Y8] at B
 refine ⟨_,rfl,_,rfl,(by show 2≤sizeLine;decide),fun t ht=>?_⟩
 have gt:=ai ht (.tup [.ref lo,.ref sz])
 have B8:=B.more gt
 exact k _ t lo sz qs B8.same af B8.lst B8.szs B8.each
end
end Kp
namespace Kp
open PySem L2
theorem tX {F:List Addr} {H:Hp} {u n:Int} {x:Str} {v:V} (h:Rep F H (.tup [.int u,.int n,.str x]) v) : ∃ q,v=.ref q∧H q=some (.tup [.int u,.int n,.str x]):=by
 unfold Rep at h
 obtain ⟨a,xs,e,_,ha,r⟩:=h
 rw [J0 (by intro z;cases z)] at ha
 unfold wt at r
 obtain ⟨x1,y1,rfl,r1,r⟩:=r
 unfold Rep at r1
 subst r1
 unfold wt at r
 obtain ⟨x1,y1,rfl,r1,r⟩:=r
 unfold Rep at r1
 subst r1
 unfold wt at r
 obtain ⟨x1,y1,rfl,r1,r⟩:=r
 unfold Rep at r1
 subst r1
 unfold wt at r
 subst r
 exact ⟨a,e,ha⟩
def itD (e:Int × Nat × Bool) : Dt:=.tup [.int e.1,.int (e.2.1:Nat),.str (if e.2.2=true then "held" else "lapsed")]
theorem oM (ts:Told) : w9 ts=.lst (ts.map itD):=rfl
theorem tY (a:Int) (d:wd) : ∃ pre,grp a d=pre++[d]:=by
 by_cases h:∃ t,d=.clock t∧a<t
 ·obtain ⟨t,rfl,ht⟩:=h
  exact ⟨_,kK ht⟩
 ·exact ⟨[],dY fun t e c=>h ⟨t,e,c⟩⟩
theorem uU {a:Int} {d:wd} (h:(grp a d).length≤1) : grp a d=[d]:=by
 obtain ⟨pre,e⟩:=tY a d
 rw [e] at h ⊢
 rw [Jc] at h
 have:pre=[]:=List.length_eq_zero_iff.mp (by have:pre.length+1≤1:=h;omega)
 rw [this]
 rfl
theorem tZ {a:Int} {d:wd} (h : 1<(grp a d).length) : ∃ t,d=.clock t∧a<t:=by
 by_cases c:∃ t,d=.clock t∧a<t
 ·exact c
 ·rw [dY fun t e z=>c ⟨t,e,z⟩] at h
  exact absurd h (Nat.lt_irrefl 1)
theorem vW {b:vY} {ds:List wd} {k:Nat} (hk:k<ds.length) : (b.run ds).2[k]? = some ((b.run (ds.take k)).1.done ds[k]).2:=by
 have e:ds=ds.take k++ds[k]::ds.drop (k+1):=by rw [← List.drop_eq_getElem_cons hk,List.take_append_drop]
 have l:(ds.take k).length=k:=by rw [Y4];omega
 have z:b.run ds=b.run (ds.take k++ds[k]::ds.drop (k+1)):=by rw [← e]
 rw [z,iy,cG]
 show ((b.run (ds.take k)).2++_)[k]? = _
 rw [Yg (by rw [c7];omega),c7,l,Nat.sub_self]
 rfl
section
variable {P:Program} {w:World} {K:Ay} {mg:Str→Option Value} {base:Heap}
theorem bW:wb ["_law_script","_law_rooms","_law_asked","_law_longer","_law_sizes","_law_first","_law_second","_law_pair","_law_state","_law_spot","_law_k","_law_told","_law_j","_law_one","_law_deed","_law_rows"] ["_law_script"] (vZ sLaw):=L2.wy rfl rfl rfl rfl (by decide +kernel)
theorem vX {f f1 f2 f3 f5 f6 f7 f8 f10:Addr} {fd fd1 fd2 fd3 fd5 fd6 fd7 fd8 fd10:FuncData} (F:Fun K "law" "law" sLaw f fd) (T:Blt mg)
  (D1:Defs P w K mg base "_law_sized" y8 ["_law_script"] 2 (Ah K) f1 fd1)
  (D2:Defs P w K mg base "_law_deeds" y9 ["_law_cells","_law_count"] 2 (Ai K) f2 fd2)
  (D3:Defs P w K mg base "_law_reach" yF ["_law_script","_law_most","_law_bound"] 1 (zd K) f3 fd3)
  (D5:Defs P w K mg base "_law_alike" y6 ["_law_found","_law_due"] 2 Aj f5 fd5)
  (D6:Defs P w K mg base "_law_begun" za ["_law_rooms"] 1 Ag f6 fd6)
  (D7:Defs P w K mg base "_law_done" Ae ["_law_state","_law_deed"] 5 zh f7 fd7)
  (D8:Defs P w K mg base "_law_by_one" zw ["_law_asked"] 1 Aq f8 fd8)
  (D10:Defs P w K mg base "_law_stands" yw ["_law_state"] 1 zK f10 fd10)
  (F_answers:FD P w K mg base CX0 "answers" ["rooms","deeds"] 9 yM) (F_standing:FD P w K mg base CX0 "standing" ["rooms","deeds"] 9 yN) :
  we P w K mg base CX0 10 f fd ["_law_script"] (Ap K):=by
 obtain ⟨F__law_sized,b__law_sized,m__law_sized,G__law_sized⟩:=D1
 obtain ⟨F__law_deeds,b__law_deeds,m__law_deeds,G__law_deeds⟩:=D2
 obtain ⟨F__law_reach,b__law_reach,m__law_reach,G__law_reach⟩:=D3
 obtain ⟨F__law_alike,b__law_alike,m__law_alike,G__law_alike⟩:=D5
 obtain ⟨F__law_begun,b__law_begun,m__law_begun,G__law_begun⟩:=D6
 obtain ⟨F__law_done,b__law_done,m__law_done,G__law_done⟩:=D7
 obtain ⟨F__law_by_one,b__law_by_one,m__law_by_one,G__law_by_one⟩:=D8
 obtain ⟨F__law_stands,b__law_stands,m__law_stands,G__law_stands⟩:=D10
 refine F.ok bW (fun vs H Q E h=>?_) (fun cdv A outer s H vs Q E hr h=>?_)
 ·obtain ⟨a,ns,rfl,_⟩:=h
  rfl
 obtain ⟨a,ns,rfl,hS,h63,k⟩:=h
 refine ⟨_,    (ae
 (aC (i:=1) bW.nd rfl (Or.inl rfl) (aV G__law_sized hr.mn rfl m__law_sized F__law_sized.kp b__law_sized .nil wg (aa (pv 0) aj)))
 (ae
 (aC (i:=2) bW.nd rfl (Or.inl rfl) (aV G__law_deeds hr.mn rfl m__law_deeds F__law_deeds.kp b__law_deeds .nil wg (aa (jl kW (pv 0) (i7 ag) (i7 (az bh ag (aV G__law_reach hr.mn rfl m__law_reach F__law_reach.kp b__law_reach .nil wg (aa (pv 0) (aa ag (aa ag aj))))))) (aa (aJ aG rfl T.len bF (aa (pv 1) aj)) aj))))
 (ae
 (cT (aV G__law_by_one hr.mn rfl m__law_by_one F__law_by_one.kp b__law_by_one .nil wg (aa (pv 2) aj)) (kO rfl (cE (aO (i:=3) bW.nd rfl (Or.inl rfl)) (cE (aO (i:=4) bW.nd rfl (Or.inl rfl)) i5))))
 (ae
 (aC (i:=5) bW.nd rfl (Or.inl rfl) (h9 F_answers hr.mn rfl wg (aa (bN bV rfl T.list cK (aa (pv 1) aj)) (aa (bN bV rfl T.list cK (aa (pv 2) aj)) aj))))
 (ae
 (aC (i:=6) bW.nd rfl (Or.inl rfl) (h9 F_answers hr.mn rfl wg (aa (bN bV rfl T.list cK (aa (pv 1) aj)) (aa (bN bV rfl T.list cK (aa (pv 3) aj)) aj))))
 (ae
 (aH (PW.pt (dJ (fB (dZ (aJ b9 rfl T.isinstance br (aa (pv 5) (aa (fz rfl T.list cK) aj))))) (cM (fB (dZ (aJ b9 rfl T.isinstance br (aa (pv 6) (aa (fz rfl T.list cK) aj))))))))
 (ak
 (aA dI))
 aB)
 (ae
 (aH (PW.pt (dJ (au fD (aJ aG rfl T.len bF (aa (pv 5) aj)) (aJ aG rfl T.len bF (aa (pv 2) aj)) (wa _)) (cM (au fD (aJ aG rfl T.len bF (aa (pv 6) aj)) (aJ aG rfl T.len bF (aa (pv 3) aj)) (wa _)))))
 (ak
 (aA dI))
 aB)
 (ae
 (bU PassesOwn.never rfl (bC (a0 (aa (bu (aa (pv 2) (aa (pv 5) aj))) (aa (bu (aa (pv 3) (aa (pv 6) aj))) aj)))) (aO (i:=7) bW.nd rfl (Or.inl rfl))
 (ae
 (aC (i:=8) bW.nd rfl (Or.inr rfl) (aV G__law_begun hr.mn rfl m__law_begun F__law_begun.kp b__law_begun .nil wg (aa (pv 1) aj)))
 (ak
 (aH (fB (dZ (aV G__law_alike hr.mn rfl m__law_alike F__law_alike.kp b__law_alike .nil wg (aa (ax aK (pv 7) ag (fun _ _=>rfl)) (aa (cj ["_law_deed"] ["_law_state"] [8] rfl (bC (ax aK (pv 7) ag (fun _ _=>rfl))) (fun _ _ _ _ _ _=>aO (i:=0) (show List.Nodup ((["_law_deed"] : List Str)++(["_law_state"] : List Str)) from by decide +kernel) rfl (Or.inl rfl)) (fun _ _ _ _ _ _=>eC) (fun _ _ _ _ _ _=>(aV G__law_done hr.mn rfl m__law_done F__law_done.kp b__law_done .nil wg (aa (pv 1) (aa (pv 0) aj)))) (.cons rfl rfl (.inl rfl) .nil)) aj)))))
 (ak
 (aA dI))
 aB))))
 (ae
 (aC (i:=9) bW.nd rfl (Or.inl rfl) ag)
 (ae
 (bU PassesOwn.never rfl (dS rfl T.range (aa (aJ aG rfl T.len bF (aa (pv 2) aj)) aj)) (aO (i:=10) bW.nd rfl (Or.inl rfl))
 (ae
 (aC (i:=11) bW.nd rfl (Or.inl rfl) (ax av (pv 6) (az cC (az bh (pv 9) (ax av (pv 4) (pv 10) (fun _ _=>rfl))) ag) (fun _ _=>rfl)))
 (dh
 (aH (au fW (ax av (pv 4) (pv 10) (fun _ _=>rfl)) ag (wa _))
 (ae
 (aC (i:=11) bW.nd rfl (Or.inl rfl) (a0 aj))
 (ak
 (bU PassesOwn.never rfl (jK rfl T.range (aa (pv 9) (aa (az bh (pv 9) (ax av (pv 4) (pv 10) (fun _ _=>rfl))) aj))) (aO (i:=12) bW.nd rfl (Or.inl rfl))
 (ak
 (bU PassesOwn.never rfl (bC (ax av (pv 6) (pv 12) (fun _ _=>rfl))) (aO (i:=13) bW.nd rfl (Or.inl rfl))
 (ae
 (aH (au fW (ax aK (pv 13) ag (fun _ _=>rfl)) (ax aK (ax av (pv 3) (pv 12) (fun _ _=>rfl)) ag (fun _ _=>rfl)) (wa _))
 (ak
 (aA dI))
 aB)
 (ae
 (aH (PW.pt (iB (au fW (pv 12) (pv 9) (wa _)) (fS (au lZ (ax aK (pv 13) ag (fun _ _=>rfl)) (ax aK (ax av (pv 3) (az cC (pv 12) ag) (fun _ _=>rfl)) ag (fun _ _=>rfl)) (wa _)))))
 (ak
 (aA dI))
 aB)
 (ak
 (aF (bP Jl Jq Jr aX (pv 11) (aa (pv 13) aj)))))))))))
 aB)
 (ae
 (aH (fB (dZ (aV G__law_alike hr.mn rfl m__law_alike F__law_alike.kp b__law_alike .nil wg (aa (pv 11) (aa (ax av (pv 5) (pv 10) (fun _ _=>rfl)) aj)))))
 (ak
 (aA dI))
 aB)
 (ak
 (aC (i:=9) bW.nd rfl (Or.inl rfl) (az bh (pv 9) (ax av (pv 4) (pv 10) (fun _ _=>rfl)))))))))
 (ae
 (aC (i:=8) bW.nd rfl (Or.inr rfl) (aV G__law_begun hr.mn rfl m__law_begun F__law_begun.kp b__law_begun .nil wg (aa (pv 1) aj)))
 (ae
 (bU PassesOwn.never rfl (bC (pv 2)) (aO (i:=14) bW.nd rfl (Or.inl rfl))
 (ak
 (aF (aV G__law_done hr.mn rfl m__law_done F__law_done.kp b__law_done .nil wg (aa (pv 8) (aa (pv 14) aj))))))
 (ae
 (bU PassesOwn.never rfl (bC (a0 (aa (pv 2) (aa (pv 3) aj)))) (aO (i:=15) bW.nd rfl (Or.inl rfl))
 (ak
 (aH (fB (dZ (aV G__law_alike hr.mn rfl m__law_alike F__law_alike.kp b__law_alike .nil wg (aa (h9 F_standing hr.mn rfl wg (aa (bN bV rfl T.list cK (aa (pv 1) aj)) (aa (bN bV rfl T.list cK (aa (pv 15) aj)) aj))) (aa (aV G__law_stands hr.mn rfl m__law_stands F__law_stands.kp b__law_stands .nil wg (aa (pv 8) aj)) aj)))))
 (ak
 (aA dI))
 aB)))
 (ak
 (aA dI))))))))))))))),?_⟩
 refine ⟨_,rfl,a,ns,rfl,hS,h63,fun H1 rl rooms s1 e1 nrl hne h8 hpos=>?_⟩
 refine ⟨_,rfl,_,rfl,_,rfl,a,36,100,ns,rfl,s1.seq hS,h63,_,_,rfl,rfl,_,rfl,a,_,rfl,s1.seq hS,fun cp hcp=>?_⟩
 obtain ⟨zs,ezs,hzs⟩:=tP ns 4 40
 have g2:=ai hcp (.lst (ym (ns.map V.int) (some 4) (some (4+36))))
 have c2:(upd H1 cp (.lst (ym (ns.map V.int) (some 4) (some (4+36))))) cp=some (.lst (zs.map V.int)):=by rw [af];exact congrArg (fun z=>some (HO.lst z)) ezs
 have hlen:(rooms.map V.int).length=rooms.length:=J9 _
 have hpos1 : 0<rooms.length:=List.length_pos_iff.mpr hne
 refine ⟨_,rfl,rl,_,rfl,.inl (SqL.of (g2 _ _ e1)),cp,zs,_,rfl,SqL.of c2,(by omega),(by rw [hlen];omega),fun H3 l ps dds M hps=>?_⟩
 have s3:=(s1.trans g2).trans M.same
 have e3:=M.same _ _ (g2 _ _ e1)
 have l3:=M.lst
 have d3:=M.each
 have fine3:=M.fine
 clear M c2 g2 ezs e1 s1 hcp
 have hp36:ps.length≤36:=by omega
 have hdl:dds.length=ps.length:=d3.len.symm
 have pl:(ps.map V.ref).length=ps.length:=J9 _
 refine ⟨_,rfl,l,ps,dds,rfl,l3,d3,(by omega),fun H4 tp lo sz qs s4 et elo esz E4=>?_⟩
 refine ⟨tp,_,rfl,SqT.of et,rfl,_,_,rfl,_,_,rfl,rfl,?_⟩
 have ll:(grps 0 dds).flatten.length≤13*dds.length:=iA dds 0
 have lqs:qs.length=(grps 0 dds).flatten.length:=E4.len
 have e4:=s4 _ _ e3
 have l4:=s4 _ _ l3
 have d4:Each (fun p dd=>H4 p=some (.tup dd.vs)) ps dds:=d3.mono fun _ _ _ h=>s4 _ _ h
 have sH4:=s3.trans s4
 clear s3 e3 l3 d3 s4 et
 refine ⟨_,rfl,rl,_,rfl,.inl (SqL.of e4),fun hb hhb=>?_⟩
 have g5:=ai hhb (.lst (rooms.map V.int))
 have b5:(upd H4 hb (.lst (rooms.map V.int))) hb=some (.lst (rooms.map V.int)):=af
 generalize upd H4 hb (.lst (rooms.map V.int))=H5 at g5 b5
 refine ⟨_,rfl,l,_,rfl,.inl (SqL.of (g5 _ _ l4)),fun ha hha=>?_⟩
 have g6:=ai hha (.lst (ps.map V.ref))
 have a6:(upd H5 ha (.lst (ps.map V.ref))) ha=some (.lst (ps.map V.ref)):=af
 generalize upd H5 ha (.lst (ps.map V.ref))=H6 at g6 a6
 have g46:=g5.trans g6
 refine ⟨hb,ha,rooms,ps,dds,rfl,g6 _ _ b5,a6,d4.mono fun _ _ _ h=>g46 _ _ h,by omega,by omega,fun H7 v s7 rv=>?_⟩
 have g47:=g46.trans s7
 obtain ⟨fa,xs1,rfl,ef7,rf7⟩:=lS rv
 refine ⟨_,rfl,rl,_,rfl,.inl (SqL.of (g47 _ _ e4)),fun hb2 hhb2=>?_⟩
 have g8:=ai hhb2 (.lst (rooms.map V.int))
 have b8:(upd H7 hb2 (.lst (rooms.map V.int))) hb2=some (.lst (rooms.map V.int)):=af
 generalize upd H7 hb2 (.lst (rooms.map V.int))=H8 at g8 b8
 refine ⟨_,rfl,lo,_,rfl,.inl (SqL.of (g8 _ _ (g47 _ _ elo))),fun ha2 hha2=>?_⟩
 have g9:=ai hha2 (.lst (qs.map V.ref))
 have a9:(upd H8 ha2 (.lst (qs.map V.ref))) ha2=some (.lst (qs.map V.ref)):=af
 generalize upd H8 ha2 (.lst (qs.map V.ref))=H9 at g9 a9
 have g79:=g8.trans g9
 have g49:=g47.trans g79
 refine ⟨hb2,ha2,rooms,qs,(grps 0 dds).flatten,rfl,g9 _ _ b8,a9,E4.mono fun _ _ _ h=>g49 _ _ h,by omega,by omega,fun HA v s10 rv2=>?_⟩
 have g7A:=g79.trans s10
 have g4A:=g49.trans s10
 obtain ⟨sa,xs2,rfl,es,rs⟩:=lS rv2
 have ef:=g7A _ _ ef7
 have rf:=rf7.same g7A
 have rvF:=rv.same g7A
 have rlA:=g4A _ _ e4
 have lA:=g4A _ _ l4
 have loA:=g4A _ _ elo
 have szA:=g4A _ _ esz
 have dA:Each (fun p dd=>HA p=some (.tup dd.vs)) ps dds:=d4.mono fun _ _ _ h=>g4A _ _ h
 have EA:Each (fun p dd=>HA p=some (.tup dd.vs)) qs (grps 0 dds).flatten:=E4.mono fun _ _ _ h=>g4A _ _ h
 have sHA:=sH4.trans g4A
 have lx1:xs1.length=dds.length:=by rw [rf.len,c7]
 have lx2:xs2.length=(grps 0 dds).flatten.length:=by rw [rs.len,c7]
 clear g5 b5 hhb g6 a6 hha g46 s7 rv g47 ef7 rf7 g8 b8 hhb2 g9 a9 hha2 g79 g49 s10 g7A g4A e4 l4 elo esz d4 E4 sH4
 refine ⟨_,rfl,_,_,_,true,rfl,fh (k:=true) ef,.one (gZ true),_,rfl,ifF rfl ?_⟩
 refine ⟨_,rfl,_,_,_,true,rfl,fh (k:=true) es,.one (gZ true),_,rfl,ifF rfl ?_⟩
 refine ⟨_,rfl,fa,_,rfl,.inl (SqL.of ef),_,rfl,l,_,rfl,.inl (SqL.of lA),rfl,_,rfl,ifF (by rw [lx1,pl,hdl];simp) ?_⟩
 refine ⟨_,rfl,sa,_,rfl,.inl (SqL.of es),_,rfl,lo,_,rfl,.inl (SqL.of loA),rfl,_,rfl,ifF (by rw [lx2,J9,lqs];simp) ?_⟩
 have hk1:dds.countP wd.isK≤44:=Ju List.countP_le_length (by omega)
 have hk2:(grps 0 dds).flatten.countP wd.isK≤44:=by rw [tV];exact hk1
 refine ⟨_,rfl,_,rfl,(by show 2≤sizeLine;decide),fun t1 ht1=>?_⟩
 have gB:=ai ht1 (.tup [.ref l,.ref fa])
 have tB:(upd HA t1 (.tup [.ref l,.ref fa])) t1=some (.tup [.ref l,.ref fa]):=af
 generalize upd HA t1 (.tup [.ref l,.ref fa])=HB at gB tB
 refine ⟨_,rfl,_,rfl,(by show 2≤sizeLine;decide),fun t2 ht2=>?_⟩
 have gC:=ai ht2 (.tup [.ref lo,.ref sa])
 have tC:(upd HB t2 (.tup [.ref lo,.ref sa])) t2=some (.tup [.ref lo,.ref sa]):=af
 generalize upd HB t2 (.tup [.ref lo,.ref sa])=HC at gC tC
 refine ⟨(by show 2≤sizeLine;decide),fun tl htl=>?_⟩
 have gD:=ai htl (.lst [.ref t1,.ref t2])
 have tD:(upd HC tl (.lst [.ref t1,.ref t2])) tl=some (.lst [.ref t1,.ref t2]):=af
 generalize upd HC tl (.lst [.ref t1,.ref t2])=HD at gD tD
 have gAD:=gB.trans (gC.trans gD)
 refine ⟨tl,rfl,⟨_,SqL.of tD⟩,bZ (K:=K) (a:=tl) (xs:=[.ref t1,.ref t2]) (fun i σ H5=>∃ (v7 v8:Option V),σ=[some (.ref a),some (.ref rl),some (.ref l),some (.ref lo),some (.ref sz),some (.ref fa),some (.ref sa),v7,v8,none,none,none,none,none,none,none]∧wm HD H5)
  ⟨none,none,rfl,fun _ _ h=>h⟩ (fun i σ H5 _ ⟨_,_,_,g⟩=>SqL.of (g _ _ tD)) ?_ ?_⟩
 ·rintro i x σ H5 hi ⟨v7,v8,rfl,g5⟩
  obtain ⟨q,la,fx,zs,ds,rfl,hq,hla,E5,r5,kk,lds⟩ : ∃ (q la fx:Addr) (zs:List Addr) (ds:List wd),x=.ref q∧H5 q=some (.tup [.ref la,.ref fx])∧H5 la=some (.lst (zs.map V.ref))∧Each (fun p dd=>H5 p=some (.tup dd.vs)) zs ds∧Rep [] H5 (.lst ((vY.begun rooms).run ds).2) (.ref fx)∧ds.countP wd.isK≤44∧ds.length≤500:=by
   have gA5:=gAD.trans g5
   match i,hi with
   | 0,hi=>cases hi;exact ⟨t1,l,fa,ps,dds,rfl,g5 _ _ (gD _ _ (gC _ _ tB)),gA5 _ _ lA,dA.mono fun _ _ _ h=>gA5 _ _ h,rvF.same gA5,hk1,by omega⟩
   | 1,hi=>cases hi;exact ⟨t2,lo,sa,qs,_,rfl,g5 _ _ (gD _ _ tC),gA5 _ _ loA,EA.mono fun _ _ _ h=>gA5 _ _ h,rv2.same gA5,hk2,by omega⟩
   | n+2,hi=>cases hi
  have lz:ds.length=zs.length:=E5.len.symm
  refine ⟨_,rfl,rl,rooms,rfl,g5 _ _ (gAD _ _ rlA),(by omega),fun H6 d ad s6 pic hR hfoot=>?_⟩
  refine ⟨_,rfl,q,_,_,_,rfl,rfl,SqT.of (s6 _ _ hq),rfl,_,rfl,q,_,_,_,rfl,rfl,SqT.of (s6 _ _ hq),rfl,la,rfl,⟨_,SqL.of (s6 _ _ hla)⟩,fun acc hacc=>?_⟩
  have outA:acc∉ad.R::foot d ad:=fun m=>(List.mem_cons.mp m).elim (fun e=>by rw [e,pic.rooms] at hacc;cases hacc) (pic.new hacc)
  have gA:=ai hacc (.lst [])
  have Go0:zC H5 d acc (upd H6 acc (.lst [])) ad (vY.begun rooms) [] []:=⟨pic.same gA,cH rooms,s6.trans gA,hfoot,s6.free hacc,outA,af,bD⟩
  refine bT (K:=K) (a:=la) (xs:=zs.map V.ref) (fun i σ H12=>∃ (v:Option V) (ad:Adr) (xs:List V),σ=[v,some (.ref d)]∧zC H5 d acc H12 ad ((vY.begun rooms).run (ds.take i)).1 ((vY.begun rooms).run (ds.take i)).2 xs∧xs.length=i) ⟨none,ad,[],rfl,Go0,rfl⟩ (fun i σ H12 _ ⟨_,_,_,_,G,_⟩=>SqL.of (G.same _ _ hla)) ?_ ?_
  ·rintro i x σ H12 N hN hi ⟨v0,ad1,xs,rfl,G,hxs⟩
   rw [Jw] at hi
   cases ei:zs[i]? with
   | none=>rw [ei] at hi;cases hi
   | some p =>
    rw [ei] at hi
    cases hi
    have hil:i<ds.length:=by rw [lz];exact (Jg.mp ei).1
    have hp12:=G.same _ _ (E5.at_ i p ds[i] ei (Ja hil))
    have et:ds.take (i+1)=ds.take i++[ds[i]]:=bp (Ja hil)
    have hal:((vY.begun rooms).run (ds.take i)).1.all.length<64:=lV kk i
    refine (show (Ad zh [] E0 (xV (yx 1) (xV (yx 0) yP))) [some (V.ref p),some (V.ref d)] H12 (fun y H6=>∃ ys,H6 acc=some (.lst ys)∧ys.length<sizeLine∧N [some (V.ref p),some (V.ref d)] (upd H6 acc (.lst (ys++[y])))) from ?_)
    refine ⟨_,rfl,_,rfl,d,ad1,_,p,ds[i],rfl,hp12,G.pic,G.ok,hal,fun H13 ad2 y A13 r13 f13=>?_⟩
    obtain ⟨h13,G2⟩:=G.step A13 r13 f13
    refine ⟨xs,h13,big (by omega),hN _ _ ⟨some (.ref p),ad2,xs++[y],rfl,?_,by rw [Jc,Jo,hxs]⟩⟩
    rw [et,ek]
    exact G2
  ·rintro σ H12 ⟨v0,ad1,xs,rfl,G,hxs⟩
   rw [J9,← lz,Y8] at G
   have R:=(tU ds (vY.begun rooms) (cH rooms) (by show 0+_<64;omega)).2
   have sz:wB (.lst ((vY.begun rooms).run ds).2)≤16000000:=by
    rw [dB]
    omega
   have nacc:acc∉foot d ad1:=fun m=>G.out (Jd _ m)
   refine ⟨.ref fx,.ref acc,_,rfl,g0 (r5.same G.same) (fb (F:=foot d ad1) nacc G.at_ (G.reps.step wH.refl Ext.drop)),sz,fun H14 s14=>⟨_,rfl,ifF rfl ?_⟩⟩
   exact ⟨_,_,rfl,g5.trans (G.same.trans s14)⟩
 rintro σ HE ⟨v7,v8,rfl,gE⟩
 have gAE:=gAD.trans gE
 have rlE:=gAE _ _ rlA
 have lE:=gAE _ _ lA
 have loE:=gAE _ _ loA
 have szE:=gAE _ _ szA
 have efE:=gAE _ _ ef
 have esE:=gAE _ _ es
 have rfE:=rf.same gAE
 have rsE:=rs.same gAE
 have dE:Each (fun p dd=>HE p=some (.tup dd.vs)) ps dds:=dA.mono fun _ _ _ h=>gAE _ _ h
 have EE:Each (fun p dd=>HE p=some (.tup dd.vs)) qs (grps 0 dds).flatten:=EA.mono fun _ _ _ h=>gAE _ _ h
 have sHE:=sHA.trans gAE
 clear gAE gAD gE gB gC gD tB tC tD ht1 ht2 htl rlA lA loA szA ef es rf rs dA EA sHA rvF rv2
 have Tm0:=tQ rooms
 have O0:=cH rooms
 refine ⟨_,rfl,l,_,rfl,.inl (SqL.of lE),_,rfl,by rw [pl];omega,by rw [pl];omega,?_⟩
 rw [pl,Jp]
 refine cO (lo:=0) (n:=ps.length) (fun i σ H5=>∃ (v10 v11 v12 v13:Option V),σ=[some (.ref a),some (.ref rl),some (.ref l),some (.ref lo),some (.ref sz),some (.ref fa),some (.ref sa),v7,v8,some (.int (((grps 0 (dds.take i)).flatten.length:Nat) : Int)),v10,v11,v12,v13,none,none]∧wm HE H5)
  ⟨none,none,none,none,rfl,fun _ _ h=>h⟩ ?_ ?_
 ·rintro i σ H5 hi ⟨v10,v11,v12,v13,rfl,g5⟩
  rw [Int.zero_add]
  have hid:i<dds.length:=by omega
  have nowE:((vY.begun rooms).run (dds.take i)).1.now=xg 0 (dds.take i):=jQ _ _ O0
  have LA:∀ j,j<(grp (xg 0 (dds.take i)) dds[i]).length→((vY.begun rooms).run (grps 0 dds).flatten).2[(grps 0 (dds.take i)).flatten.length+j]? = (((vY.begun rooms).run (dds.take i)).1.run (grp (xg 0 (dds.take i)) dds[i])).2[j]? ∧ (grps 0 dds).flatten[(grps 0 (dds.take i)).flatten.length+j]? = (grp (xg 0 (dds.take i)) dds[i])[j]?:=fun j hj=>by
   have z:=uS (b:=vY.begun rooms) O0 Tm0 fine3 hid (j:=j) (by rw [nowE];exact hj)
   rw [nowE] at z
   exact z
  have hsz:atI (((grps 0 dds).map fun g=>((g.length:Nat) : Int)).map V.int) ((i:Nat) : Int)=some (.int (((grp (xg 0 (dds.take i)) dds[i]).length:Nat) : Int)):=cU (by rw [Jw,Jw,tS dds 0 hid];rfl)
  have r1:=vW (b:=vY.begun rooms) hid
  have Ok1:=(je (vY.begun rooms) O0 (dds.take i)).1
  have Tm1:=n5 (dds.take i) (vY.begun rooms) O0 Tm0 fun d hd=>fine3 d (List.mem_of_mem_take hd)
  have hal:((vY.begun rooms).run (dds.take i)).1.all.length<64:=lV hk1 i
  have nxl:=j3 dds 0 hid
  have hgl:=lU (xg 0 (dds.take i)) dds[i]
  have hsp:(grps 0 (dds.take i)).flatten.length≤500:=by
   have:=iA (dds.take i) 0
   rw [Y4] at this
   omega
  generalize hspot:(grps 0 (dds.take i)).flatten.length=spot at LA nxl hsp
  generalize hbk:((vY.begun rooms).run (dds.take i)).1=bk at nowE LA r1 Ok1 Tm1 hal
  rw [← nowE] at LA hsz nxl hgl
  generalize hdd:dds[i]=dd at LA hsz r1 nxl hgl
  generalize hgl2:(grp bk.now dd).length=gl at LA hsz nxl hgl
  obtain ⟨xl,exl,rxl⟩ : ∃ x,xs2[spot+(gl-1)]? = some x∧∃ D,(bk.run (grp bk.now dd)).2[gl-1]? = some D∧Rep [] HE D x:=by
   have h1:=(LA (gl-1) (by omega)).1
   obtain ⟨D,hD⟩ : ∃ D,(bk.run (grp bk.now dd)).2[gl-1]? = some D:=⟨_,Ja (by rw [c7,hgl2];omega)⟩
   rw [hD] at h1
   obtain ⟨x,ex,rx⟩:=rsE.get h1
   exact ⟨x,ex,D,hD,rx⟩
  have itl:atI xs2 (((spot:Nat) : Int)+((gl:Nat) : Int)-1)=some xl:=by
   have z:=cU (xs:=xs2) (j:=spot+(gl-1)) exl
   rw [show ((spot+(gl-1) : Nat) : Int)=((spot:Nat) : Int)+((gl:Nat) : Int)-1 by omega] at z
   exact z
  refine ⟨_,rfl,_,rfl,_,rfl,_,rfl,sz,_,_,_,rfl,rfl,SqL.of (g5 _ _ szE),hsz,_,_,rfl,rfl,_,_,rfl,rfl,sa,_,_,_,rfl,rfl,SqL.of (g5 _ _ esE),itl,?_⟩
  refine ⟨fun σ H9=>∃ (v12 v13:Option V) (tv:V),σ=[some (.ref a),some (.ref rl),some (.ref l),some (.ref lo),some (.ref sz),some (.ref fa),some (.ref sa),v7,v8,some (.int ((spot:Nat) : Int)),some (.int ((i:Nat) : Int)),some tv,v12,v13,none,none]∧wm HE H9∧Rep [] H9 (bk.done dd).2 tv,?_,?_⟩
  ·refine ⟨_,rfl,_,rfl,sz,_,_,_,rfl,rfl,SqL.of (g5 _ _ szE),hsz,_,_,rfl,rfl,_,rfl,?_⟩
   refine wx (fun c=>?_) (fun c=>?_)
   ·have hgt : 1<gl:=by have:(1:Int)<((gl:Nat) : Int):=Ji c;omega
    obtain ⟨t,rfl,ht⟩:=tZ (a:=bk.now) (d:=dd) (by omega)
    obtain ⟨ts,er,lts,fl,ev⟩:=oJ Ok1 Tm1 ht
    have eg:grp bk.now (.clock t)=(yg bk.now t).map wd.clock:=by show (if bk.now<t then _ else _)=_;rw [J3 ht]
    rw [eg] at LA hgl2
    rw [er] at LA
    rw [J9] at hgl2
    rw [hgl2] at lts
    refine ⟨(by show 0≤sizeLine;decide),fun tl htl=>?_⟩
    have gT:=ai htl (.lst [])
    have tT:(upd H5 tl (.lst [])) tl=some (.lst []):=af
    have nE:HE tl=none:=g5.free htl
    generalize upd H5 tl (.lst [])=H6 at gT tT
    refine ⟨_,rfl,_,rfl,_,rfl,_,rfl,sz,_,_,_,rfl,rfl,SqL.of (gT _ _ (g5 _ _ szE)),hsz,_,_,rfl,rfl,_,_,rfl,?_⟩
    rw [show ((((spot:Nat) : Int)+((gl:Nat) : Int))-((spot:Nat) : Int)).toNat=gl by omega]
    refine cO (lo:=((spot:Nat) : Int)) (n:=gl) (fun j σ H7=>∃ (v12 v13:Option V) (us:List V),σ=[some (.ref a),some (.ref rl),some (.ref l),some (.ref lo),some (.ref sz),some (.ref fa),some (.ref sa),v7,v8,some (.int ((spot:Nat) : Int)),some (.int ((i:Nat) : Int)),some (.ref tl),v12,v13,none,none]∧wm HE H7∧H7 tl=some (.lst us)∧wt [] HE ((ts.take j).flatten.map itD) us) ⟨v12,v13,[],rfl,g5.trans gT,tT,bD⟩ ?_ ?_
    ·rintro j σ H7 hj ⟨v12,v13,us,rfl,g7,e7,r7⟩
     obtain ⟨LA1,LA2⟩:=LA j hj
     have htj:j<ts.length:=by omega
     have hmj:j<(yg bk.now t).length:=by omega
     rw [Jw,Ja htj] at LA1
     rw [Jw,Ja hmj] at LA2
     obtain ⟨xj,exj,rxj⟩:=rsE.get LA1
     rw [oM] at rxj
     obtain ⟨ta,ys,rfl,eT,rT⟩:=lS rxj
     have lys:ys.length=ts[j].length:=by rw [rT.len,J9]
     have itj:atI xs2 (((spot:Nat) : Int)+((j:Nat) : Int))=some (.ref ta):=cU (xs:=xs2) (j:=spot+j) exj
     obtain ⟨pj,epj⟩ : ∃ p,qs[spot+j]? = some p:=⟨_,Ja (by rw [lqs];exact (Jg.mp LA2).1)⟩
     have hpj:=EE.at_ (spot+j) pj _ epj LA2
     have itp:atI (qs.map V.ref) (((spot:Nat) : Int)+((j:Nat) : Int))=some (.ref pj):=bG (i:=spot+j) epj
     have evj:=ev j ts[j] (Ja htj)
     have etk:ts.take (j+1)=ts.take j++[ts[j]]:=bp (Ja htj)
     have lus:us.length≤100000:=by
      have h1:=r7.len
      rw [J9] at h1
      have h2:(ts.take j).flatten.length≤ts.flatten.length:=by
       have:ts.flatten=(ts.take j).flatten++(ts.drop j).flatten:=by rw [← List.flatten_append,List.take_append_drop]
       rw [this,Jc]
       omega
      rw [fl] at h2
      have h3:(bk.clock t).2.length≤_:=hJ (t:=t) _ bk Ok1 (bg bk)
      have h4:=bg bk
      have h5:wA bk.all*(bk.all.length+1)≤64*64:=Nat.mul_le_mul (by omega) (by omega)
      omega
     have lall:ts[j].length≤100000:=by
      have h2:ts[j].length≤ts.flatten.length:=by
       have:ts.flatten=(ts.take (j+1)).flatten++(ts.drop (j+1)).flatten:=by rw [← List.flatten_append,List.take_append_drop]
       rw [this,etk,List.flatten_append,Jc,Jc]
       have e : [ts[j]].flatten=ts[j]:=by simp
       rw [e]
       omega
      rw [fl] at h2
      have h3:(bk.clock t).2.length≤_:=hJ (t:=t) _ bk Ok1 (bg bk)
      have h4:=bg bk
      have h5:wA bk.all*(bk.all.length+1)≤64*64:=Nat.mul_le_mul (by omega) (by omega)
      omega
     generalize htm:(yg bk.now t)[j]=tm at hpj LA2
     generalize hes:ts[j]=es' at rT lys evj etk lall
     refine ⟨_,rfl,_,rfl,sa,_,_,_,rfl,rfl,SqL.of (g7 _ _ esE),itj,?_⟩
     refine ⟨ta,rfl,⟨_,SqL.of (g7 _ _ eT)⟩,bZ (K:=K) (a:=ta) (xs:=ys) (fun m σ H8=>∃ (v13:Option V) (us':List V),σ=[some (.ref a),some (.ref rl),some (.ref l),some (.ref lo),some (.ref sz),some (.ref fa),some (.ref sa),v7,v8,some (.int ((spot:Nat) : Int)),some (.int ((i:Nat) : Int)),some (.ref tl),some (.int (((spot:Nat) : Int)+((j:Nat) : Int))),v13,none,none]∧wm HE H8∧H8 tl=some (.lst us')∧wt [] HE (((ts.take j).flatten++es'.take m).map itD) us'∧us'.length=us.length+m)
      ⟨v13,us,rfl,g7,e7,by rw [List.take_zero,List.append_nil];exact r7,rfl⟩ (fun m σ H8 _ ⟨_,_,_,g,_⟩=>SqL.of (g _ _ eT)) ?_ ?_⟩
     ·rintro m x σ H8 hm ⟨v13,us',rfl,g8,e8,r8,l8⟩
      have hml:m<es'.length:=by rw [← lys];exact (Jg.mp hm).1
      obtain ⟨x',ex',rx'⟩:=rT.get (i:=m) (d:=itD es'[m]) (by rw [Jw,Ja hml];rfl)
      rw [hm] at ex'
      cases ex'
      have rx2:=rx'
      unfold itD at rx2
      obtain ⟨q,rfl,hq⟩:=tX rx2
      obtain ⟨ev1,ev2⟩:=evj es'[m] (Yf hml)
      obtain ⟨u1,hu1,le1⟩:=ev1
      rw [Ja hmj,htm] at hu1
      cases hu1
      have hq8:=g8 _ _ hq
      have post:∃ (v13:Option V) (us2:List V),([some (.ref a),some (.ref rl),some (.ref l),some (.ref lo),some (.ref sz),some (.ref fa),some (.ref sa),v7,v8,some (.int ((spot:Nat) : Int)),some (.int ((i:Nat) : Int)),some (.ref tl),some (.int (((spot:Nat) : Int)+((j:Nat) : Int))),some (.ref q),none,none] : St)=[some (.ref a),some (.ref rl),some (.ref l),some (.ref lo),some (.ref sz),some (.ref fa),some (.ref sa),v7,v8,some (.int ((spot:Nat) : Int)),some (.int ((i:Nat) : Int)),some (.ref tl),some (.int (((spot:Nat) : Int)+((j:Nat) : Int))),v13,none,none]∧wm HE (upd H8 tl (.lst (us'++[.ref q])))∧(upd H8 tl (.lst (us'++[.ref q]))) tl=some (.lst us2)∧wt [] HE (((ts.take j).flatten++es'.take (m+1)).map itD) us2∧us2.length=us.length+(m+1):=by
       refine ⟨_,us'++[.ref q],rfl,bx g8 nE _,af,?_,by rw [Jc,l8];rfl⟩
       rw [bp (Ja hml),← Y6,Jz]
       exact wt.snoc rx' r8
      refine ⟨_,rfl,q,_,_,_,rfl,rfl,SqT.of hq8,rfl,_,rfl,_,rfl,lo,_,_,_,rfl,rfl,SqL.of (g8 _ _ loE),itp,pj,_,_,_,rfl,rfl,SqT.of (g8 _ _ hpj),rfl,_,_,rfl,rfl,_,rfl,ifF (Js (by omega)) ?_⟩
      refine ⟨_,rfl,_,rfl,_,_,rfl,rfl,_,rfl,?_⟩
      refine wx (fun c=>?_) (fun c=>yo ?_)
      ·have hj0 : 0<j:=by have:((spot:Nat) : Int)<((spot:Nat) : Int)+((j:Nat) : Int):=Ji c;omega
       obtain ⟨j0,rfl⟩ : ∃ j0,j=j0+1:=⟨j-1,by omega⟩
       obtain ⟨u0,hu0,lt0⟩:=ev2 j0 rfl
       have LB:=(LA j0 (by omega)).2
       rw [Jw,hu0] at LB
       obtain ⟨p0,ep0⟩ : ∃ p,qs[spot+j0]? = some p:=⟨_,Ja (by rw [lqs];exact (Jg.mp LB).1)⟩
       have hp0:=EE.at_ (spot+j0) p0 _ ep0 LB
       have itp0:atI (qs.map V.ref) (((spot:Nat) : Int)+((j0+1:Nat) : Int)-1)=some (.ref p0):=by
        have z:=bG (i:=spot+j0) ep0
        rw [show ((spot+j0:Nat) : Int)=((spot:Nat) : Int)+((j0+1:Nat) : Int)-1 by omega] at z
        exact z
       refine ⟨_,rfl,q,_,_,_,rfl,rfl,SqT.of hq8,rfl,_,rfl,_,rfl,_,_,rfl,rfl,lo,_,_,_,rfl,rfl,SqL.of (g8 _ _ loE),itp0,p0,_,_,_,rfl,rfl,SqT.of (g8 _ _ hp0),rfl,_,_,rfl,rfl,_,rfl,ifF (Js (by omega)) ?_⟩
       exact ⟨_,rfl,.inl ⟨rfl,_,SqL.of e8⟩,_,rfl,tl,_,_,rfl,rfl,e8,huge (by omega),post⟩
      ·exact ⟨_,rfl,.inl ⟨rfl,_,SqL.of e8⟩,_,rfl,tl,_,_,rfl,rfl,e8,huge (by omega),post⟩
     ·rintro σ H8 ⟨v13,us',rfl,g8,e8,r8,_⟩
      refine ⟨_,_,us',rfl,g8,e8,?_⟩
      rw [lys,Y8] at r8
      rw [etk,List.flatten_append]
      have e : [es'].flatten=es':=by simp
      rw [e]
      exact r8
    ·rintro σ H7 ⟨v12,v13,us,rfl,g7,e7,r7⟩
     refine ⟨v12,v13,.ref tl,rfl,g7,?_⟩
     rw [← lts,Y8,fl] at r7
     rw [ft (by omega),oM]
     exact fb (by simp) e7 (r7.same g7)
   ·have hg1:gl=1:=by
     have:¬ (1:Int)<((gl:Nat) : Int):=fun z=>c (Je z)
     omega
    obtain ⟨D,hD,rx⟩:=rxl
    rw [uU (a:=bk.now) (d:=dd) (by omega),oK,hg1] at hD
    cases hD
    exact ⟨v12,v13,xl,rfl,g5,rx.same g5⟩
  rintro σ H9 ⟨v12,v13,tv,rfl,g9,r9⟩
  obtain ⟨x1,ex1,rx1⟩:=rfE.get r1
  have it1:atI xs1 ((i:Nat) : Int)=some x1:=cU ex1
  have szd:=kB Ok1 hal dd
  refine ⟨_,rfl,_,rfl,_,rfl,fa,_,_,_,rfl,rfl,SqL.of (g9 _ _ efE),it1,tv,x1,_,rfl,g0 r9 (rx1.same g9),(by omega),fun HF sF=>⟨_,rfl,ifF rfl ?_⟩⟩
  have g10:=g9.trans sF
  refine ⟨_,rfl,_,rfl,_,rfl,sz,_,_,_,rfl,rfl,SqL.of (g10 _ _ szE),hsz,_,_,rfl,rfl,?_⟩
  refine ⟨some (.int ((i:Nat) : Int)),some tv,v12,v13,?_,g10⟩
  rw [nxl]
  rfl
 rintro σ HF ⟨v10,v11,v12,v13,rfl,gF⟩
 have rlF:=gF _ _ rlE
 have lF:=gF _ _ lE
 have loF:=gF _ _ loE
 have dF:Each (fun p dd=>HF p=some (.tup dd.vs)) ps dds:=dE.mono fun _ _ _ h=>gF _ _ h
 have EF:Each (fun p dd=>HF p=some (.tup dd.vs)) qs (grps 0 dds).flatten:=EE.mono fun _ _ _ h=>gF _ _ h
 have sHF:=sHE.trans gF
 clear rlE lE loE dE EE sHE szE efE esE rfE rsE gF
 refine ⟨_,rfl,rl,rooms,rfl,rlF,(by omega),fun HG d ad sG pic hR hfoot=>?_⟩
 have G0:xE HF d HG ad (vY.begun rooms):=⟨pic,cH rooms,sG,hfoot⟩
 refine ⟨_,rfl,l,rfl,⟨_,SqL.of (sG _ _ lF)⟩,bZ (K:=K) (a:=l) (xs:=ps.map V.ref) (fun i σ H5=>∃ (v14:Option V) (ad:Adr),σ=[some (.ref a),some (.ref rl),some (.ref l),some (.ref lo),some (.ref sz),some (.ref fa),some (.ref sa),v7,some (.ref d),some (.int (((grps 0 (dds.take ps.length)).flatten.length:Nat) : Int)),v10,v11,v12,v13,v14,none]∧xE HF d H5 ad ((vY.begun rooms).run (dds.take i)).1)
  ⟨none,ad,rfl,G0⟩ (fun i σ H5 _ ⟨_,_,_,G⟩=>SqL.of (G.same _ _ lF)) ?_ ?_⟩
 ·rintro i x σ H5 hi ⟨v14,ad1,rfl,G⟩
  rw [Jw] at hi
  cases ei:ps[i]? with
  | none=>rw [ei] at hi;cases hi
  | some p =>
   rw [ei] at hi
   cases hi
   have hid:i<dds.length:=by rw [hdl];exact (Jg.mp ei).1
   have hp:=G.same _ _ (dF.at_ i p dds[i] ei (Ja hid))
   have et:dds.take (i+1)=dds.take i++[dds[i]]:=bp (Ja hid)
   refine ⟨_,rfl,_,rfl,d,ad1,_,p,dds[i],rfl,hp,G.pic,G.ok,lV hk1 i,fun H6 ad2 y A6 _ _=>?_⟩
   refine ⟨_,ad2,rfl,?_⟩
   rw [et,ek]
   exact G.step A6
 rintro σ HI ⟨v14,ad1,rfl,G⟩
 rw [pl,← hdl,Y8] at G
 have hal:((vY.begun rooms).run dds).1.all.length<64:=by have:=lV (rooms:=rooms) hk1 dds.length;rw [Y8] at this;exact this
 have szS:=mS ((vY.begun rooms).run dds).1
 have eL:((vY.begun rooms).run (grps 0 dds).flatten).1=((vY.begun rooms).run dds).1:=jR dds _ O0 Tm0 fine3
 refine ⟨_,rfl,_,rfl,(by show 2≤sizeLine;decide),fun t3 ht3=>?_⟩
 have gJ:=ai ht3 (.lst [.ref l,.ref lo])
 have tJ:(upd HI t3 (.lst [.ref l,.ref lo])) t3=some (.lst [.ref l,.ref lo]):=af
 generalize upd HI t3 (.lst [.ref l,.ref lo])=HJ at gJ tJ
 have GJ:=G.more gJ
 refine ⟨t3,rfl,⟨_,SqL.of tJ⟩,bZ (K:=K) (a:=t3) (xs:=[.ref l,.ref lo]) (fun i σ H5=>∃ (v15:Option V),σ=[some (.ref a),some (.ref rl),some (.ref l),some (.ref lo),some (.ref sz),some (.ref fa),some (.ref sa),v7,some (.ref d),some (.int (((grps 0 (dds.take ps.length)).flatten.length:Nat) : Int)),v10,v11,v12,v13,v14,v15]∧wm HJ H5)
  ⟨none,rfl,fun _ _ h=>h⟩ (fun i σ H5 _ ⟨_,_,g⟩=>SqL.of (g _ _ tJ)) ?_ ?_⟩
 ·rintro i x σ H5 hi ⟨v15,rfl,g5⟩
  have gF5:=GJ.same.trans g5
  obtain ⟨la,zs,ds,rfl,hla,E5,eb,lds⟩ : ∃ (la:Addr) (zs:List Addr) (ds:List wd),x=.ref la∧H5 la=some (.lst (zs.map V.ref))∧Each (fun p dd=>H5 p=some (.tup dd.vs)) zs ds∧((vY.begun rooms).run ds).1=((vY.begun rooms).run dds).1∧ds.length≤500:=by
   match i,hi with
   | 0,hi=>cases hi;exact ⟨l,ps,dds,rfl,gF5 _ _ lF,dF.mono fun _ _ _ h=>gF5 _ _ h,rfl,by omega⟩
   | 1,hi=>cases hi;exact ⟨lo,qs,_,rfl,gF5 _ _ loF,EF.mono fun _ _ _ h=>gF5 _ _ h,eL,by omega⟩
   | n+2,hi=>cases hi
  refine ⟨_,rfl,rl,_,rfl,.inl (SqL.of (gF5 _ _ rlF)),fun hb hhb=>?_⟩
  have g6:=ai hhb (.lst (rooms.map V.int))
  have b6:(upd H5 hb (.lst (rooms.map V.int))) hb=some (.lst (rooms.map V.int)):=af
  generalize upd H5 hb (.lst (rooms.map V.int))=H6 at g6 b6
  refine ⟨_,rfl,la,_,rfl,.inl (SqL.of (g6 _ _ hla)),fun ha hha=>?_⟩
  have g7:=ai hha (.lst (zs.map V.ref))
  have a7:(upd H6 ha (.lst (zs.map V.ref))) ha=some (.lst (zs.map V.ref)):=af
  generalize upd H6 ha (.lst (zs.map V.ref))=H7 at g7 a7
  have g57:=g6.trans g7
  refine ⟨hb,ha,rooms,zs,ds,rfl,g7 _ _ b6,a7,E5.mono fun _ _ _ h=>g57 _ _ h,by omega,by omega,fun H8 l2 qs2 s8 nl2 e8 M8=>?_⟩
  rw [eb] at M8
  have gI8:=(gJ.trans g5).trans (g57.trans s8)
  refine ⟨_,rfl,d,ad1,_,rfl,G.pic.same gI8,by omega,fun H9 l4 qs4 s9 nl4 e9 M9=>?_⟩
  refine ⟨.ref l2,.ref l4,_,rfl,g0 (mT (s9 _ _ e8) (xm.same M8 s9)) (mT e9 M9),by omega,fun HT sT=>⟨_,rfl,ifF rfl ?_⟩⟩
  exact ⟨_,rfl,g5.trans (g57.trans (s8.trans (s9.trans sT)))⟩
 rintro σ HK ⟨v15,rfl,gK⟩
 exact k _ (sHF.trans (GJ.same.trans gK))
end
end Kp
namespace Kp
open PySem L2
end Kp
namespace Kp
open PySem L2
def keyed:List DictEntry→Bool
 | []=>true
 | e::r=>(match e.key with | .str _ _=>keyed r | _=>false)
theorem kL:∀ {l:List DictEntry},keyed l=true→(∀ e∈l,∃ n t,e.key=.str n t)
 | [],_=>fun _ h=>nomatch h
 | e::r,q=>by
  unfold keyed at q
  split at q
  ·rename_i n t hk
   intro x hx
   rcases List.mem_cons.mp hx with rfl | hx
   ·exact ⟨n,t,hk⟩
   ·exact kL q x hx
  ·cases q
theorem t6 {K:Ay} {N:Addr} {c:Value} {d:Option Addr} {es:Array DictEntry} {n:Nat} {sl:Array (Option Value)} (hl:K.lookup N=some ⟨c,d,.dict es n,sl⟩) (q:keyed es.toList=true) : PySem.W.nsOkIn K N=true:=by
 unfold PySem.W.nsOkIn
 rw [hl]
 refine Array.all_eq_true'.mpr fun x hx=>?_
 obtain ⟨a,t,e⟩:=kL q x (Array.mem_toList_iff.mpr hx)
 rw [e]
end Kp
namespace Kp
open PySem L2
def xb (K:Ay) (x:Str) (st:Stmt) : Prop:=∃ (f:Addr) (fd:FuncData),PySem.W.nsIn K mainGlobals x=some (some (.ref f))∧Fun K x x st f fd
def wQ (K:Ay) (C:Addr) (m q:Str) (st:Stmt) : Prop:=∃ (f:Addr) (fd:FuncData),PySem.W.findIn K (.ref C) m=some (some (.ref f))∧PySem.W.isFn K (.ref f)=true∧Fun K m q st f fd
def yq (K:Ay) (R:Addr) (x q:Str) (st:Stmt) : Prop:=∃ (C f:Addr) (fd:FuncData),PySem.W.nsIn K mainGlobals x=some (some (.ref C))∧xC K R C∧PySem.W.keepIn K (.ref C)=true∧PySem.W.findIn K (.ref C) "__init__" = some (some (.ref f))∧(∃ oI,K.lookup f=some oI∧oI.cls=.type "function")∧Fun K "__init__" q st f fd
section
variable {K:Ay} {x m q:Str} {st:Stmt} {C R f:Addr} {oc:Value} {od an:Option Addr} {sl:Array (Option Value)} {kV dc pm cdv ct:Value}
theorem bo (a:PySem.W.nsIn K mainGlobals x=some (some (.ref f))) (l:K.lookup f=some ⟨oc,od,.func (PySem.W.fnOf x x (w4 st) (wR st) (vZ st) .none kV dc pm an cdv ct),sl⟩)
  (c:PySem.W.codeIn K cdv x=true) (k:PySem.W.keepIn K (.ref f)=true) : xb K x st:=⟨f,_,a,kZ l c k⟩
theorem aY (a:PySem.W.findIn K (.ref C) m=some (some (.ref f))) (i:PySem.W.isFn K (.ref f)=true) (l:K.lookup f=some ⟨oc,od,.func (PySem.W.fnOf m q (w4 st) (wR st) (vZ st) .none kV dc pm an cdv ct),sl⟩)
  (c:PySem.W.codeIn K cdv q=true) (k:PySem.W.keepIn K (.ref f)=true) : wQ K C m q st:=⟨f,_,a,i,kZ l c k⟩
theorem dR {cn cq:Str} {N:Addr} {bs:List Value} {sn:List Str} {sub:List Value} {ab:Bool} {col:Option Bool} {dd:Option Addr} {k0 k1 k2 k3 k5:Option Value} (g:PySem.W.nsIn K mainGlobals x=some (some (.ref C)))
  (ob:K.lookup C=some (excClassObj cn cq C N bs (.ref R::bmR) true sn sub ab col dd k0 k1 k2 k3 k5 "Exception.__new__")) (sa:PySem.W.findIn K (.ref C) "__setattr__" = some (some (.builtin "object.__setattr__")))
  (ga:PySem.W.findIn K (.ref C) "__getattribute__" = some (some (.builtin "BaseException.__getattribute__"))) (gh:PySem.W.findIn K (.ref C) "__getattr__" = some none) (no:PySem.W.findIn K (.ref C) "text" = some none)
  (kp:PySem.W.keepIn K (.ref C)=true) (a:PySem.W.findIn K (.ref C) "__init__" = some (some (.ref f))) (l:K.lookup f=some ⟨.type "function",od,.func (PySem.W.fnOf "__init__" q (w4 st) (wR st) (vZ st) .none kV dc pm an cdv ct),sl⟩)
  (c:PySem.W.codeIn K cdv q=true) (k:PySem.W.keepIn K (.ref f)=true) : yq K R x q st :=
 ⟨C,f,_,g,⟨⟨_,_,_,_,_,_,_,_,_,_,_,_,_,_,ob⟩,sa,ga,gh,no⟩,kp,a,⟨_,l,rfl⟩,kZ l c k⟩
variable {P:Program} {w:World} {h:Heap} {mg:Str→Option Value} {base:Heap} {CX:CXT} {ps:List Str} {k:Nat} {sp:Sp}
theorem xb.fd (d:xb K x st) (X:K.In h) (G:h.Ns mainGlobals mg) (H:∀ {f:Addr} {fd:FuncData},Fun K x x st f fd→we P w K mg base CX k f fd ps sp)
  (hb:∀ (kV doc pm:Value) (an:Option Addr) (cdv ct:Value) (us:List Value),us.length=ps.length→bindArgs (PySem.W.fnOf x x (w4 st) (wR st) (vZ st) .none kV doc pm an cdv ct) ⟨us,[]⟩=pure (ps.zip us)) : FD P w K mg base CX x ps k sp:=by
 obtain ⟨f,fd,a,F⟩:=d
 exact ⟨f,fd,PySem.W.mg_of X G a,F.kp,F.binds hb,H F⟩
theorem wQ.md (d:wQ K C m q st) (H:∀ {f:Addr} {fd:FuncData},Fun K m q st f fd→we P w K mg base CX k f fd ps sp)
  (hb:∀ (kV doc pm:Value) (an:Option Addr) (cdv ct:Value) (us:List Value),us.length=ps.length→bindArgs (PySem.W.fnOf m q (w4 st) (wR st) (vZ st) .none kV doc pm an cdv ct) ⟨us,[]⟩=pure (ps.zip us)) : MD P w K mg base CX C m ps k sp:=by
 obtain ⟨f,fd,a,i,F⟩:=d
 exact ⟨f,fd,⟨a,i,F.kp⟩,F.binds hb,H F⟩
theorem wQ.kd (d:wQ K C "__init__" q st) (X:K.In h) (G:h.Ns mainGlobals mg) (g:PySem.W.nsIn K mainGlobals x=some (some (.ref C))) (mk:PySem.W.makesIn K C=true) (kc:PySem.W.keepIn K (.ref C)=true) (H:∀ {f:Addr} {fd:FuncData},Fun K "__init__" q st f fd→we P w K mg base CX0 k f fd ps sp)
  (hb:∀ (kV doc pm:Value) (an:Option Addr) (cdv ct:Value) (us:List Value),us.length=ps.length→bindArgs (PySem.W.fnOf "__init__" q (w4 st) (wR st) (vZ st) .none kV doc pm an cdv ct) ⟨us,[]⟩=pure (ps.zip us)) : KD P w K mg base x C ps k sp:=by
 obtain ⟨f,fd,a,i,F⟩:=d
 exact ⟨f,fd,PySem.W.mg_of X G g,⟨mk,a,i,kc⟩,F.binds hb,H F⟩
theorem yq.xd {tx:Str} (d:yq K R x q st) (X:K.In h) (G:h.Ns mainGlobals mg) (H:∀ {C f:Addr} {fd:FuncData},xC K R C→Fun K "__init__" q st f fd→we P w K mg base CX0 k f fd ["self"] (xt C tx))
  (hb:∀ (kV doc pm:Value) (an:Option Addr) (cdv ct:Value) (us:List Value),us.length=1→bindArgs (PySem.W.fnOf "__init__" q (w4 st) (wR st) (vZ st) .none kV doc pm an cdv ct) ⟨us,[]⟩=pure ((["self"] : List Str).zip us)) : XD P w K mg base R x tx k:=by
 obtain ⟨C,f,fd,g,ec,kp,a,o,F⟩:=d
 exact ⟨C,f,fd,ec,PySem.W.mg_of X G g,a,o,kp,F.binds hb,H ec F⟩
end
end Kp
namespace Kp
open PySem L2
theorem t8 {K:Ay} {f:Addr} {fd:FuncData} (F:Fun K "law" "law" sLaw f fd) : ∀ (s:Shared) (v:Value),BindsTo s fd ⟨[v],[]⟩ [("_law_script",v)]:=by
 obtain ⟨oc,od,kV,doc,pm,an,cdv,ct,osl,rfl,lk,hcd⟩:=F.ex
 exact fun s v=>.of_eq rfl
end Kp
namespace Kp
open PySem L2
set_option maxHeartbeats 0 in
theorem all_mk {l:PySem.W.OpenLaw} {w:World} {K:Ay} {h:Heap} {mg:Str→Option Value} {fa:Addr} (X:K.In h) (G:h.Ns mainGlobals mg) (hfa:mg "law" = some (.ref fa))
  {CK CS CY R:Addr} {tH tT tW tG:Tok}
  {cnCK cqCK:Str} {NCK:Addr} {bsCK:List Value} {hdCK_:Bool} {snCK:List Str} {subCK:List Value} {abCK:Bool} {colCK:Option Bool} {ddCK:Option Addr} {k0CK k1CK k2CK k3CK k5CK:Option Value} {nidCK:String}
  {dcN:Value} {ddN:Option Addr} {esN:Array DictEntry} {epN:Nat} {slN:Array (Option Value)}
  {cnR cqR:Str} {NR:Addr} {bsR:List Value} {hdR_:Bool} {snR:List Str} {subR:List Value} {abR:Bool} {colR:Option Bool} {ddR:Option Addr} {k0R k1R k2R k3R k5R:Option Value} {nidR:String}
  {fR:Addr} {od an:Option Addr} {sl:Array (Option Value)} {oc kV dc pm cdv ct:Value}
  (aCK:PySem.W.nsIn K mainGlobals "Keeping" = some (some (.ref CK)))
  (cCK:Cls K CK)
  (mCK:PySem.W.makesIn K CK=true)
  (kCK:PySem.W.keepIn K (.ref CK)=true)
  (nCK_number:PySem.W.findIn K (.ref CK) "number" = some none)
  (nCK_who:PySem.W.findIn K (.ref CK) "who" = some none)
  (nCK_show:PySem.W.findIn K (.ref CK) "show" = some none)
  (nCK_many:PySem.W.findIn K (.ref CK) "many" = some none)
  (nCK_span:PySem.W.findIn K (.ref CK) "span" = some none)
  (nCK_state:PySem.W.findIn K (.ref CK) "state" = some none)
  (nCK_until:PySem.W.findIn K (.ref CK) "until" = some none)
  (aCS:PySem.W.nsIn K mainGlobals "Show" = some (some (.ref CS)))
  (cCS:Cls K CS)
  (mCS:PySem.W.makesIn K CS=true)
  (kCS:PySem.W.keepIn K (.ref CS)=true)
  (nCS_room:PySem.W.findIn K (.ref CS) "room" = some none)
  (nCS_here:PySem.W.findIn K (.ref CS) "here" = some none)
  (nCS_row:PySem.W.findIn K (.ref CS) "row" = some none)
  (aCY:PySem.W.nsIn K mainGlobals "Yard" = some (some (.ref CY)))
  (cCY:Cls K CY)
  (mCY:PySem.W.makesIn K CY=true)
  (kCY:PySem.W.keepIn K (.ref CY)=true)
  (nCY_shows:PySem.W.findIn K (.ref CY) "shows" = some none)
  (nCY_keepings:PySem.W.findIn K (.ref CY) "keepings" = some none)
  (nCY_now:PySem.W.findIn K (.ref CY) "now" = some none)
  (obCK:K.lookup CK=some (excClassObj cnCK cqCK CK NCK bsCK [.type "object"] hdCK_ snCK subCK abCK colCK ddCK k0CK k1CK k2CK k3CK k5CK nidCK))
  (lnCK:K.lookup NCK=some ⟨dcN,ddN,.dict esN epN,slN⟩)
  (kyCK:keyed esN.toList=true)
  (eqCK:PySem.W.nsIn K NCK "__eq__" = some none)
  (neCK:PySem.W.nsIn K NCK "__ne__" = some none)
  (gHELD:PySem.W.nsIn K mainGlobals "HELD" = some (some (.str "held" tH)))
  (gTAKEN:PySem.W.nsIn K mainGlobals "TAKEN" = some (some (.str "taken" tT)))
  (gWAITING:PySem.W.nsIn K mainGlobals "WAITING" = some (some (.str "waiting" tW)))
  (gGONE:PySem.W.nsIn K mainGlobals "GONE" = some (some (.str "gone" tG)))
  (ne1:CY≠CK)
  (ne2:CY≠CS)
  (ne3:CS≠CK)
  (aR:PySem.W.nsIn K mainGlobals "Refusal" = some (some (.ref R)))
  (obR:K.lookup R=some (excClassObj cnR cqR R NR bsR bmR hdR_ snR subR abR colR ddR k0R k1R k2R k3R k5R nidR))
  (rdR:PySem.W.readsIn K R (.type "type")=true)
  (sgR:PySem.W.specialIn K (.ref R) "__getattribute__" = some (some (.builtin "type.__getattribute__")))
  (fcR:PySem.W.findCls K (.ref R) (.type "type") "__init__" = some (.val (.ref fR)))
  (lR:K.lookup fR=some ⟨oc,od,.func (PySem.W.fnOf "__init__" "Refusal.__init__" (w4 yW) (wR yW) (vZ yW) .none kV dc pm an cdv ct),sl⟩)
  (cdR:PySem.W.codeIn K cdv "Refusal.__init__" = true)
  (kR:PySem.W.keepIn K (.ref fR)=true)
  (hga:PySem.W.findIn K (.type "type") "__getattribute__" = some (some (.builtin "type.__getattribute__")))
  (sbt:PySem.W.subIn K (.type "type") (.type "type")=some true)
  (fcE:PySem.W.findCls K (.type "Exception") (.type "type") "__init__" = some (.val (.builtin "Exception.__init__")))
  (d_NoKeeping:yq K R "NoKeeping" "NoKeeping.__init__" xD)
  (d_NoShow:yq K R "NoShow" "NoShow.__init__" yI)
  (d_NoPlaces:yq K R "NoPlaces" "NoPlaces.__init__" xQ)
  (d_TooMany:yq K R "TooMany" "TooMany.__init__" yb)
  (d_NoSpan:yq K R "NoSpan" "NoSpan.__init__" yJ)
  (d_NotHeld:yq K R "NotHeld" "NotHeld.__init__" yc)
  (d_SameShow:yq K R "SameShow" "SameShow.__init__" xR)
  (d_Full:yq K R "Full" "Full.__init__" zW)
  (d_TooEarly:yq K R "TooEarly" "TooEarly.__init__" xS)
  (d_Keeping_init:wQ K CK "__init__" "Keeping.__init__" sKi)
  (d_Keeping_hold:wQ K CK "hold" "Keeping.hold" zR)
  (d_Keeping_take:wQ K CK "take" "Keeping.take" zS)
  (d_Keeping_leave:wQ K CK "leave" "Keeping.leave" zj)
  (d_Keeping_give_back:wQ K CK "give_back" "Keeping.give_back" zT)
  (d_Keeping_move_to:wQ K CK "move_to" "Keeping.move_to" zU)
  (d_Keeping_pass_to:wQ K CK "pass_to" "Keeping.pass_to" zV)
  (d_Keeping_places_kept:wQ K CK "places_kept" "Keeping.places_kept" yH)
  (d_served:xb K "served" zk)
  (d_next_lapse:xb K "next_lapse" sNext)
  (d_Show_init:wQ K CS "__init__" "Show.__init__" sSi)
  (d_Show_free_places:wQ K CS "free_places" "Show.free_places" zY)
  (d_Show_has_room_for:wQ K CS "has_room_for" "Show.has_room_for" sShas)
  (d_Show_let_in:wQ K CS "let_in" "Show.let_in" sSin)
  (d_Show_line_up:wQ K CS "line_up" "Show.line_up" sSup)
  (d_Show_let_go:wQ K CS "let_go" "Show.let_go" sSgo)
  (d_Show_numbers_waiting:wQ K CS "numbers_waiting" "Show.numbers_waiting" sSnum)
  (d_Show_serve:wQ K CS "serve" "Show.serve" zm)
  (d_Yard_init:wQ K CY "__init__" "Yard.__init__" sYi)
  (d_Yard_find_show:wQ K CY "find_show" "Yard.find_show" sYfs)
  (d_Yard_find_any:wQ K CY "find_any" "Yard.find_any" sYfa)
  (d_Yard_find_keeping:wQ K CY "find_keeping" "Yard.find_keeping" sYfk)
  (d_Yard_keep:wQ K CY "keep" "Yard.keep" zZ)
  (d_Yard_take:wQ K CY "take" "Yard.take" z4)
  (d_Yard_back:wQ K CY "back" "Yard.back" z6)
  (d_Yard_end:wQ K CY "end" "Yard.end" sYend)
  (d_Yard_part:wQ K CY "part" "Yard.part" z7)
  (d_Yard_move:wQ K CY "move" "Yard.move" z8)
  (d_Yard_pass_on:wQ K CY "pass_on" "Yard.pass_on" z9)
  (d_Yard_clock:wQ K CY "clock" "Yard.clock" zq)
  (d_Yard_held_until:wQ K CY "held_until" "Yard.held_until" Aa)
  (d_Yard_lapse:wQ K CY "lapse" "Yard.lapse" zr)
  (d_Yard_free_at:wQ K CY "free_at" "Yard.free_at" Ab)
  (d_Yard_row_at:wQ K CY "row_at" "Yard.row_at" sYrow)
  (d_Yard_state_of:wQ K CY "state_of" "Yard.state_of" yv)
  (d_Yard_left_standing:wQ K CY "left_standing" "Yard.left_standing" Ac)
  (d_do_deed:xb K "do_deed" sDo)
  (d_ask:xb K "ask" sAsk)
  (d_answer:xb K "answer" zu)
  (d_answers:xb K "answers" yf)
  (d_standing:xb K "standing" xT)
  (d_reach:xb K "_law_reach" yF)
  (d_whole:xb K "_law_whole" y4)
  (d_at:xb K "_law_at" sAt)
  (d_alike:xb K "_law_alike" y6)
  (d_sized:xb K "_law_sized" y8)
  (d_asking:xb K "_law_asking" yu)
  (d_deeds:xb K "_law_deeds" y9)
  (d_begun:xb K "_law_begun" za)
  (d_spare:xb K "_law_spare" x6)
  (d_serve:xb K "_law_serve" xP)
  (d_gone:xb K "_law_gone" zE)
  (d_entered:xb K "_law_entered" xX)
  (d_moved:xb K "_law_moved" zb)
  (d_with_one:xb K "_law_with_one" xY)
  (d_clock:xb K "_law_clock" zc)
  (d_done:xb K "_law_done" Ae)
  (d_stands:xb K "_law_stands" yw)
  (d_by_one:xb K "_law_by_one" zw)
  (d_law:xb K "law" sLaw)
  (z_list:PySem.W.nsIn K mainGlobals "list" = some none)
  (z_tuple:PySem.W.nsIn K mainGlobals "tuple" = some none)
  (z_int:PySem.W.nsIn K mainGlobals "int" = some none)
  (z_str:PySem.W.nsIn K mainGlobals "str" = some none)
  (z_bool:PySem.W.nsIn K mainGlobals "bool" = some none)
  (z_isinstance:PySem.W.nsIn K mainGlobals "isinstance" = some none)
  (z_len:PySem.W.nsIn K mainGlobals "len" = some none)
  (z_range:PySem.W.nsIn K mainGlobals "range" = some none)
  (z_min:PySem.W.nsIn K mainGlobals "min" = some none)
  (z_sorted:PySem.W.nsIn K mainGlobals "sorted" = some none)
  (z_sum:PySem.W.nsIn K mainGlobals "sum" = some none)
  (z_Exception:PySem.W.nsIn K mainGlobals "Exception" = some none)
  : ∃ fd:FuncData,(∀ (s:Shared) (v:Value),BindsTo s fd ⟨[v],[]⟩ [("_law_script",v)])∧∀ base:Heap,K.In base→base.Ns mainGlobals mg→we l.prog w K mg base CX0 10 fa fd ["_law_script"] (Ap K):=by
 obtain ⟨f_reach,fd_reach,a_reach,P_reach⟩:=d_reach
 have b_reach:=P_reach.binds (ps:=["_law_script","_law_most","_law_bound"]) (fun|_,_,_,_,_,_,[_,_,_],_=>rfl)
 have m_reach:=PySem.W.mg_of X G a_reach
 obtain ⟨f_whole,fd_whole,a_whole,P_whole⟩:=d_whole
 have b_whole:=P_whole.binds (ps:=["_law_found"]) (fun|_,_,_,_,_,_,[_],_=>rfl)
 have m_whole:=PySem.W.mg_of X G a_whole
 obtain ⟨f_at,fd_at,a_at,P_at⟩:=d_at
 have b_at:=P_at.binds (ps:=["_law_script","_law_k"]) (fun|_,_,_,_,_,_,[_,_],_=>rfl)
 have m_at:=PySem.W.mg_of X G a_at
 obtain ⟨f_alike,fd_alike,a_alike,P_alike⟩:=d_alike
 have b_alike:=P_alike.binds (ps:=["_law_found","_law_due"]) (fun|_,_,_,_,_,_,[_,_],_=>rfl)
 have m_alike:=PySem.W.mg_of X G a_alike
 obtain ⟨f_sized,fd_sized,a_sized,P_sized⟩:=d_sized
 have b_sized:=P_sized.binds (ps:=["_law_script"]) (fun|_,_,_,_,_,_,[_],_=>rfl)
 have m_sized:=PySem.W.mg_of X G a_sized
 obtain ⟨f_asking,fd_asking,a_asking,P_asking⟩:=d_asking
 have b_asking:=P_asking.binds (ps:=["_law_cells","_law_k","_law_count","_law_made"]) (fun|_,_,_,_,_,_,[_,_,_,_],_=>rfl)
 have m_asking:=PySem.W.mg_of X G a_asking
 obtain ⟨f_deeds,fd_deeds,a_deeds,P_deeds⟩:=d_deeds
 have b_deeds:=P_deeds.binds (ps:=["_law_cells","_law_count"]) (fun|_,_,_,_,_,_,[_,_],_=>rfl)
 have m_deeds:=PySem.W.mg_of X G a_deeds
 obtain ⟨f_begun,fd_begun,a_begun,P_begun⟩:=d_begun
 have b_begun:=P_begun.binds (ps:=["_law_rooms"]) (fun|_,_,_,_,_,_,[_],_=>rfl)
 have m_begun:=PySem.W.mg_of X G a_begun
 obtain ⟨f_spare,fd_spare,a_spare,P_spare⟩:=d_spare
 have b_spare:=P_spare.binds (ps:=["_law_state","_law_show"]) (fun|_,_,_,_,_,_,[_,_],_=>rfl)
 have m_spare:=PySem.W.mg_of X G a_spare
 obtain ⟨f_serve,fd_serve,a_serve,P_serve⟩:=d_serve
 have b_serve:=P_serve.binds (ps:=["_law_state","_law_show"]) (fun|_,_,_,_,_,_,[_,_],_=>rfl)
 have m_serve:=PySem.W.mg_of X G a_serve
 obtain ⟨f_gone,fd_gone,a_gone,P_gone⟩:=d_gone
 have b_gone:=P_gone.binds (ps:=["_law_state","_law_number"]) (fun|_,_,_,_,_,_,[_,_],_=>rfl)
 have m_gone:=PySem.W.mg_of X G a_gone
 obtain ⟨f_entered,fd_entered,a_entered,P_entered⟩:=d_entered
 have b_entered:=P_entered.binds (ps:=["_law_state","_law_deed"]) (fun|_,_,_,_,_,_,[_,_],_=>rfl)
 have m_entered:=PySem.W.mg_of X G a_entered
 obtain ⟨f_moved,fd_moved,a_moved,P_moved⟩:=d_moved
 have b_moved:=P_moved.binds (ps:=["_law_state","_law_number","_law_goal"]) (fun|_,_,_,_,_,_,[_,_,_],_=>rfl)
 have m_moved:=PySem.W.mg_of X G a_moved
 obtain ⟨f_with_one,fd_with_one,a_with_one,P_with_one⟩:=d_with_one
 have b_with_one:=P_with_one.binds (ps:=["_law_state","_law_deed"]) (fun|_,_,_,_,_,_,[_,_],_=>rfl)
 have m_with_one:=PySem.W.mg_of X G a_with_one
 obtain ⟨f_clock,fd_clock,a_clock,P_clock⟩:=d_clock
 have b_clock:=P_clock.binds (ps:=["_law_state","_law_time"]) (fun|_,_,_,_,_,_,[_,_],_=>rfl)
 have m_clock:=PySem.W.mg_of X G a_clock
 obtain ⟨f_done,fd_done,a_done,P_done⟩:=d_done
 have b_done:=P_done.binds (ps:=["_law_state","_law_deed"]) (fun|_,_,_,_,_,_,[_,_],_=>rfl)
 have m_done:=PySem.W.mg_of X G a_done
 obtain ⟨f_stands,fd_stands,a_stands,P_stands⟩:=d_stands
 have b_stands:=P_stands.binds (ps:=["_law_state"]) (fun|_,_,_,_,_,_,[_],_=>rfl)
 have m_stands:=PySem.W.mg_of X G a_stands
 obtain ⟨f_by_one,fd_by_one,a_by_one,P_by_one⟩:=d_by_one
 have b_by_one:=P_by_one.binds (ps:=["_law_asked"]) (fun|_,_,_,_,_,_,[_],_=>rfl)
 have m_by_one:=PySem.W.mg_of X G a_by_one
 obtain ⟨f_law,fd_law,a_law,P_law⟩:=d_law
 have e:=hfa.symm.trans (PySem.W.mg_of X G a_law)
 cases e
 have T0:Blt mg:=⟨PySem.W.mg_none_of X G z_list,PySem.W.mg_none_of X G z_tuple,PySem.W.mg_none_of X G z_int,PySem.W.mg_none_of X G z_str,PySem.W.mg_none_of X G z_bool,PySem.W.mg_none_of X G z_isinstance,PySem.W.mg_none_of X G z_len,PySem.W.mg_none_of X G z_range,PySem.W.mg_none_of X G z_min,PySem.W.mg_none_of X G z_sorted⟩
 refine ⟨fd_law,t8 P_law,fun base _ _=>?_⟩
 have T':Txt K mg ⟨CK,CS,CY,tH,tT,tW,tG⟩:=⟨cCK,cCS,cCY,nCK_number,nCK_who,nCK_show,nCK_many,nCK_span,nCK_state,nCK_until,nCS_room,nCS_here,nCS_row,nCY_shows,nCY_keepings,nCY_now,PySem.W.mg_of X G gHELD,PySem.W.mg_of X G gTAKEN,PySem.W.mg_of X G gWAITING,PySem.W.mg_of X G gGONE,T0.len,PySem.W.mg_none_of X G z_sum,T0.min,⟨_,_,_,_,_,_,_,_,_,_,_,_,_,_,_,_,obCK,t6 lnCK kyCK,eqCK,neCK⟩,ne1,ne2,ne3⟩
 have er:ErrR K R:=⟨_,_,_,_,_,_,_,_,_,_,_,_,_,_,_,_,obR⟩
 have mR:=PySem.W.mg_of X G aR
 have PR:=kZ (st:=yW) lR cdR kR
 have RD:yQ l.prog w K mg base R fR _:=⟨nO PR (PySem.W.mg_none_of X G z_Exception) hga sbt fcE,kR,PR.binds (ps:=["self","text"]) (fun|_,_,_,_,_,_,[_,_],_=>rfl),mR,rdR,fcR,sgR⟩
 have X_NoKeeping:=d_NoKeeping.xd (tx:="no keeping") X G (fun ec P=>jZ P ec RD) (fun|_,_,_,_,_,_,[_],_=>rfl)
 have X_NoShow:=d_NoShow.xd (tx:="no show") X G (fun ec P=>nQ P ec RD) (fun|_,_,_,_,_,_,[_],_=>rfl)
 have X_NoPlaces:=d_NoPlaces.xd (tx:="no places") X G (fun ec P=>lK P ec RD) (fun|_,_,_,_,_,_,[_],_=>rfl)
 have X_TooMany:=d_TooMany.xd (tx:="too many") X G (fun ec P=>mK P ec RD) (fun|_,_,_,_,_,_,[_],_=>rfl)
 have X_NoSpan:=d_NoSpan.xd (tx:="no span") X G (fun ec P=>nU P ec RD) (fun|_,_,_,_,_,_,[_],_=>rfl)
 have X_NotHeld:=d_NotHeld.xd (tx:="not held") X G (fun ec P=>mM P ec RD) (fun|_,_,_,_,_,_,[_],_=>rfl)
 have X_SameShow:=d_SameShow.xd (tx:="same show") X G (fun ec P=>lM P ec RD) (fun|_,_,_,_,_,_,[_],_=>rfl)
 have X_Full:=d_Full.xd (tx:="full") X G (fun ec P=>sH P ec RD) (fun|_,_,_,_,_,_,[_],_=>rfl)
 have X_TooEarly:=d_TooEarly.xd (tx:="too early") X G (fun ec P=>lO P ec RD) (fun|_,_,_,_,_,_,[_],_=>rfl)
 have M_Keeping_hold:=d_Keeping_hold.md (P:=l.prog) (w:=w) (mg:=mg) (base:=base) (fun P=>sI P T') (fun|_,_,_,_,_,_,[_,_],_=>rfl)
 have M_Keeping_take:=d_Keeping_take.md (P:=l.prog) (w:=w) (mg:=mg) (base:=base) (fun P=>sJ P T') (fun|_,_,_,_,_,_,[_],_=>rfl)
 have M_Keeping_leave:=d_Keeping_leave.md (P:=l.prog) (w:=w) (mg:=mg) (base:=base) (fun P=>qb P T') (fun|_,_,_,_,_,_,[_],_=>rfl)
 have M_Keeping_give_back:=d_Keeping_give_back.md (P:=l.prog) (w:=w) (mg:=mg) (base:=base) (fun P=>sL P T') (fun|_,_,_,_,_,_,[_,_],_=>rfl)
 have M_Keeping_move_to:=d_Keeping_move_to.md (P:=l.prog) (w:=w) (mg:=mg) (base:=base) (fun P=>sM P T') (fun|_,_,_,_,_,_,[_,_],_=>rfl)
 have M_Keeping_pass_to:=d_Keeping_pass_to.md (P:=l.prog) (w:=w) (mg:=mg) (base:=base) (fun P=>sN P T') (fun|_,_,_,_,_,_,[_,_],_=>rfl)
 have M_Keeping_places_kept:=d_Keeping_places_kept.md (P:=l.prog) (w:=w) (mg:=mg) (base:=base) (fun P=>nV P T') (fun|_,_,_,_,_,_,[_],_=>rfl)
 have K_Keeping:=d_Keeping_init.kd (P:=l.prog) (w:=w) (base:=base) X G aCK mCK kCK (fun P=>sP P T') (fun|_,_,_,_,_,_,[_,_,_,_,_,_],_=>rfl)
 have F_served:=d_served.fd (P:=l.prog) (w:=w) (base:=base) X G (fun P=>qe P ) (fun|_,_,_,_,_,_,[_,_],_=>rfl)
 have K_Show:=d_Show_init.kd (P:=l.prog) (w:=w) (base:=base) X G aCS mCS kCS (fun P=>sQ P T') (fun|_,_,_,_,_,_,[_,_],_=>rfl)
 have M_Show_free_places:=d_Show_free_places.md (P:=l.prog) (w:=w) (mg:=mg) (base:=base) (fun P=>sR P T' M_Keeping_places_kept) (fun|_,_,_,_,_,_,[_],_=>rfl)
 have M_Show_has_room_for:=d_Show_has_room_for.md (P:=l.prog) (w:=w) (mg:=mg) (base:=base) (fun P=>uG P T' M_Show_free_places) (fun|_,_,_,_,_,_,[_,_],_=>rfl)
 have M_Show_let_in:=d_Show_let_in.md (P:=l.prog) (w:=w) (mg:=mg) (base:=base) (fun P=>vL P T') (fun|_,_,_,_,_,_,[_,_],_=>rfl)
 have M_Show_line_up:=d_Show_line_up.md (P:=l.prog) (w:=w) (mg:=mg) (base:=base) (fun P=>vM P T') (fun|_,_,_,_,_,_,[_,_],_=>rfl)
 have M_Show_let_go:=d_Show_let_go.md (P:=l.prog) (w:=w) (mg:=mg) (base:=base) (fun P=>vN P T') (fun|_,_,_,_,_,_,[_,_],_=>rfl)
 have M_Show_numbers_waiting:=d_Show_numbers_waiting.md (P:=l.prog) (w:=w) (mg:=mg) (base:=base) (fun P=>uH P T') (fun|_,_,_,_,_,_,[_],_=>rfl)
 have M_Show_serve:=d_Show_serve.md (P:=l.prog) (w:=w) (mg:=mg) (base:=base) (fun P=>qf P T' F_served M_Show_free_places M_Keeping_hold M_Show_let_in) (fun|_,_,_,_,_,_,[_,_],_=>rfl)
 have M_Yard_find_show:=d_Yard_find_show.md (P:=l.prog) (w:=w) (mg:=mg) (base:=base) (fun P=>vO P T' X_NoShow) (fun|_,_,_,_,_,_,[_,_],_=>rfl)
 have M_Yard_find_any:=d_Yard_find_any.md (P:=l.prog) (w:=w) (mg:=mg) (base:=base) (fun P=>vP P T' X_NoKeeping) (fun|_,_,_,_,_,_,[_,_],_=>rfl)
 have M_Yard_find_keeping:=d_Yard_find_keeping.md (P:=l.prog) (w:=w) (mg:=mg) (base:=base) (fun P=>vQ P T' X_NoKeeping M_Yard_find_any) (fun|_,_,_,_,_,_,[_,_],_=>rfl)
 have M_Yard_end:=d_Yard_end.md (P:=l.prog) (w:=w) (mg:=mg) (base:=base) (fun P=>uI P T' M_Show_let_go M_Keeping_leave M_Show_serve) (fun|_,_,_,_,_,_,[_,_],_=>rfl)
 have M_Yard_back:=d_Yard_back.md (P:=l.prog) (w:=w) (mg:=mg) (base:=base) (fun P=>sX P T' M_Yard_find_keeping M_Yard_end) (fun|_,_,_,_,_,_,[_,_],_=>rfl)
 have M_Yard_take:=d_Yard_take.md (P:=l.prog) (w:=w) (mg:=mg) (base:=base) (fun P=>sY P T' M_Yard_find_keeping M_Keeping_take X_NotHeld) (fun|_,_,_,_,_,_,[_,_],_=>rfl)
 have M_Yard_part:=d_Yard_part.md (P:=l.prog) (w:=w) (mg:=mg) (base:=base) (fun P=>sZ P T' M_Yard_find_keeping M_Keeping_give_back M_Show_serve X_NoPlaces X_TooMany) (fun|_,_,_,_,_,_,[_,_,_],_=>rfl)
 have M_Yard_pass_on:=d_Yard_pass_on.md (P:=l.prog) (w:=w) (mg:=mg) (base:=base) (fun P=>tf P T' M_Yard_find_keeping M_Keeping_pass_to) (fun|_,_,_,_,_,_,[_,_,_],_=>rfl)
 have M_Yard_free_at:=d_Yard_free_at.md (P:=l.prog) (w:=w) (mg:=mg) (base:=base) (fun P=>tj P T' M_Yard_find_show M_Show_free_places) (fun|_,_,_,_,_,_,[_,_],_=>rfl)
 have M_Yard_row_at:=d_Yard_row_at.md (P:=l.prog) (w:=w) (mg:=mg) (base:=base) (fun P=>uN P T' M_Yard_find_show M_Show_numbers_waiting) (fun|_,_,_,_,_,_,[_,_],_=>rfl)
 have M_Yard_state_of:=d_Yard_state_of.md (P:=l.prog) (w:=w) (mg:=mg) (base:=base) (fun P=>qh P T' M_Yard_find_any) (fun|_,_,_,_,_,_,[_,_],_=>rfl)
 have M_state2:=d_Yard_state_of.md (P:=l.prog) (w:=w) (mg:=mg) (base:=base) (fun P=>n4 P T' M_Yard_find_any) (fun|_,_,_,_,_,_,[_,_],_=>rfl)
 have M_Yard_left_standing:=d_Yard_left_standing.md (P:=l.prog) (w:=w) (mg:=mg) (base:=base) (fun P=>tO P T' M_state2) (fun|_,_,_,_,_,_,[_],_=>rfl)
 have M_Yard_keep:=d_Yard_keep.md (P:=l.prog) (w:=w) (mg:=mg) (base:=base) (fun P=>tq P T' M_Yard_find_show K_Keeping M_Show_line_up M_Show_serve X_NoPlaces X_TooMany X_NoSpan) (fun|_,_,_,_,_,_,[_,_,_,_,_],_=>rfl)
 have M_Yard_move:=d_Yard_move.md (P:=l.prog) (w:=w) (mg:=mg) (base:=base) (fun P=>tE P T' M_Yard_find_keeping M_Yard_find_show M_Show_has_room_for M_Show_let_go M_Keeping_move_to M_Show_let_in M_Show_serve X_NotHeld X_SameShow X_Full) (fun|_,_,_,_,_,_,[_,_,_],_=>rfl)
 have F_next_lapse:=d_next_lapse.fd (P:=l.prog) (w:=w) (base:=base) X G (fun P=>uO P T') (fun|_,_,_,_,_,_,[_,_],_=>rfl)
 have M_Yard_held_until:=d_Yard_held_until.md (P:=l.prog) (w:=w) (mg:=mg) (base:=base) (fun P=>tF P T') (fun|_,_,_,_,_,_,[_],_=>rfl)
 have M_Yard_lapse:=d_Yard_lapse.md (P:=l.prog) (w:=w) (mg:=mg) (base:=base) (fun P=>qi P T' M_Yard_end) (fun|_,_,_,_,_,_,[_,_],_=>rfl)
 have M_Yard_clock:=d_Yard_clock.md (P:=l.prog) (w:=w) (mg:=mg) (base:=base) (fun P=>qj P T' F_next_lapse M_Yard_held_until M_Yard_lapse X_TooEarly) (fun|_,_,_,_,_,_,[_,_],_=>rfl)
 have F_ask:=d_ask.fd (P:=l.prog) (w:=w) (base:=base) X G (fun P=>vT P T' M_Yard_free_at M_Yard_row_at M_Yard_state_of) (fun|_,_,_,_,_,_,[_,_,_],_=>rfl)
 have F_do_deed:=d_do_deed.fd (P:=l.prog) (w:=w) (base:=base) X G (fun P=>ok_do P T' M_Yard_keep M_Yard_take M_Yard_back M_Yard_part M_Yard_move M_Yard_pass_on M_Yard_clock F_ask) (fun|_,_,_,_,_,_,[_,_],_=>rfl)
 have F_answer:=d_answer.fd (P:=l.prog) (w:=w) (base:=base) X G (fun P=>qk P T' er mR F_do_deed) (fun|_,_,_,_,_,_,[_,_],_=>rfl)
 have K_Yard:=d_Yard_init.kd (P:=l.prog) (w:=w) (base:=base) X G aCY mCY kCY (fun P=>tK P T' K_Show) (fun|_,_,_,_,_,_,[_,_],_=>rfl)
 have F_answers:=d_answers.fd (P:=l.prog) (w:=w) (base:=base) X G (fun P=>nY P T' K_Yard F_answer) (fun|_,_,_,_,_,_,[_,_],_=>rfl)
 have F_standing:=d_standing.fd (P:=l.prog) (w:=w) (base:=base) X G (fun P=>mQ P T' K_Yard F_answer M_Yard_left_standing) (fun|_,_,_,_,_,_,[_,_],_=>rfl)
 have G_spare:we l.prog w K mg base CX0 1 f_spare _ ["_law_state","_law_show"] xZ:=mG P_spare T0
 have G_serve:we l.prog w K mg base CX0 2 f_serve _ ["_law_state","_law_show"] xF:=rZ P_serve T0 P_spare b_spare m_spare
 have G_gone:we l.prog w K mg base CX0 3 f_gone _ ["_law_state","_law_number"] ze:=uE P_gone T0 P_serve b_serve m_serve G_serve
 have G_entered:we l.prog w K mg base CX0 3 f_entered _ ["_law_state","_law_deed"] x9:=nK P_entered T0 P_serve b_serve m_serve G_serve
 have G_moved:we l.prog w K mg base CX0 3 f_moved _ ["_law_state","_law_number","_law_goal"] zf:=sd P_moved T0 P_serve b_serve m_serve G_serve P_spare b_spare m_spare G_spare
 have G_with_one:we l.prog w K mg base CX0 4 f_with_one _ ["_law_state","_law_deed"] ya:=mH P_with_one T0 P_serve b_serve m_serve G_serve P_gone b_gone m_gone G_gone P_moved b_moved m_moved G_moved
 have G_clock:we l.prog w K mg base CX0 4 f_clock _ ["_law_state","_law_time"] zg:=sf P_clock T0 P_gone b_gone m_gone G_gone
 have G_done:we l.prog w K mg base CX0 5 f_done _ ["_law_state","_law_deed"] zh:=uF P_done T0 P_entered b_entered m_entered G_entered P_clock b_clock m_clock G_clock P_spare b_spare m_spare G_spare P_with_one b_with_one m_with_one G_with_one
 exact vX P_law T0 ⟨P_sized,b_sized,m_sized,su P_sized T0 P_at b_at m_at P_reach b_reach m_reach⟩ ⟨P_deeds,b_deeds,m_deeds,sC P_deeds T0 P_asking b_asking m_asking⟩ ⟨P_reach,b_reach,m_reach,mE P_reach T0⟩ ⟨P_alike,b_alike,m_alike,sD P_alike T0 P_whole b_whole m_whole⟩ ⟨P_begun,b_begun,m_begun,sj P_begun T0⟩ ⟨P_done,b_done,m_done,G_done⟩ ⟨P_by_one,b_by_one,m_by_one,qt P_by_one T0⟩ ⟨P_stands,b_stands,m_stands,qo P_stands T0⟩ F_answers F_standing
theorem walk {l:PySem.W.OpenLaw} {q:Program} {loose:List Str} {XP:(Str→Option Value)→Heap→Prop} {YP:World→Heap→Prop} {d:DefRec} {K:Params→Ay} (hn:l.most=some 63) (hdf:d.params.defaults=[])
  (hY:∀ (w:World) (h:Heap),YP w h→(K w.params).In h)
  (F:∀ (w:World) (mg:Str→Option Value) (fa:Addr) (h:Heap),(K w.params).In h→h.Ns mainGlobals mg→mg d.name=some (.ref fa) →
   ∃ fd:FuncData,(∀ (s:Shared) (u:Value),BindsTo s fd ⟨[u],[]⟩ [("_law_script",u)])∧∀ base:Heap,(K w.params).In base→base.Ns mainGlobals mg→we l.prog w (K w.params) mg base CX0 10 fa fd ["_law_script"] (Ap (K w.params))) :
  PySem.W.WalkO q loose XP YP l.row.toRowW d [] (fun f vs=>PySem.call f vs) :=
 L2.uk (n:=63) (k:=10) (x:="_law_script") (CX:=fun _=>CX0) (sp:=fun w=>Ap (K w.params)) hn (by decide) hdf ⟨rfl,by decide,by decide⟩ hY F (fun _ _ a ns hl _ hS=>⟨a,ns,rfl,hS,hl,fun _ _=>rfl⟩) fun _ _ _ _ _ z=>z
end Kp
namespace PySem.W.Fast
def tw17678452253886433168:=0
def tw7462233748496377984:=0
def tw4169815396488347069:=0
def tw11421201812406811161:=0
def tw13799570616016933881:=0
def tw17078239180829616199:=0
def tw1350375936702190853:=0
def tw12429899841796460385:=0
def tw17733127381251920459:=0
def tw729891582281749020:=0
def tw10185807759744373237:=0
def tw18034981051666289180:=0
def tw2042294767821407972:=0
def tw7709473718944319847:=0
def tw15026331976956189883:=0
def tw8904757478208958367:=0
def tw4362389723491809944:=0
def tw13984855294381999375:=0
def tw9430872981210360489:=0
def tw16891967223224611033:=0
def tw7937302116825804522:=0
def tw4947904203867444693:=0
def tw3297503839843122679:=0
def tw8680452518007152767:=0
def tw4005053912833767204:=0
def tw7325076018784708223:=0
def tw14682664178270448680:=0
def tw16750884263134123285:=0
def tw1198260027897492140:=0
def tw8248904271335040010:=0
def tw8523773473443253152:=0
def tw891501777251572387:=0
def tw2554031945151957139:=0
def tw6821378775974541871:=0
def tw14914807715146557947:=0
def tw14478968462321963149:=0
def tw14281470029078545740:=0
def tw7993032405407501577:=0
def tw7550310158670126332:=0
def tw16222283185571586371:=0
def tw16791238103771355052:=0
def tw17513397422677715861:=0
def tw9373316158976006196:=0
def tw2283494026822999841:=0
def tw3404539890515665445:=0
def tw15134986713630929139:=0
def tw10626960914023632810:=0
def tw1022262366623651341:=0
def tw1988441463863908101:=0
def tw1787557788945201181:=0
def tw1400124640892831886:=0
def tw10514205045964674307:=0
def tw8363464873803611899:=0
def tw14070889223649227301:=0
def tw8261048014086560151:=0
def tw10553767670425627446:=0
def tw4430774298811413584:=0
def tw3247977541077732930:=0
def tw18121275290130049182:=0
def tw7652622922170186355:=0
def tw9153415472489153936:=0
def tw14964292678231358223:=0
def tw14816745116792640756:=0
def tw6883743658149112597:=0
def tw13968457691383007059:=0
def tw2510291888684595810:=0
def tw2124452598229119290:=0
def tw460686651343789607:=0
def tw13908988744309210893:=0
def tw6765120288465285434:=0
def tw11016746006443019784:=0
def tw8017211047695392559:=0
def tw15777079815280676279:=0
def tw8353414152309183749:=0
def tw8246608435299384392:=0
def tw18061234284028621364:=0
def tw12331893299850477827:=0
def tw9379308786750572513:=0
def tw15922479105282103162:=0
def tw17231411943859749472:=0
def tw13056133940024408502:=0
def tw17871237813132962027:=0
def tw676979233709418713:=0
def tw2595503229582513888:=0
def tw3326058106492026025:=0
def tw12018353722077893499:=0
def tw12185500650150796962:=0
def tw11444998929217272266:=0
def tw6337852231832472039:=0
def tw4557015306406208195:=0
def tw3917193180581752242:=0
def tw5635266454912649442:=0
def tw15441813648209854435:=0
def tw17881870534096207839:=0
def tw11146984246806392648:=0
def tw13562292112156928430:=0
def tw14005981264165203774:=0
def tw483336217478646978:=0
def tw7516233229455035026:=0
def tw15264652598993052089:=0
def tw17315902443371781195:=0
def tw2527226096150881224:=0
def tw11995135240083111226:=0
def tw15206455164765736349:=0
def tw16541545758271256475:=0
def tw6198273976736211030:=0
def tw1044072766119179802:=0
def tw17311839241609925077:=0
def tw7740766852254028942:=0
def tw4746434398976437575:=0
def tw15044029502282659735:=0
def tw8301522341419712974:=0
def tw8661084246668175160:=0
def tw8256493026556951240:=0
def tw17879384962950347273:=0
def tw10352009657859573645:=0
def tw504591221112271075:=0
def tw12997663755292979066:=0
def tw18117542825263233981:=0
def tw17979468871401402953:=0
def tw10335821432000987753:=0
def tw16609678186130229408:=0
def tw8638005887908791077:=0
def tw6228606678316863268:=0
def tw11110706987659795853:=0
def tw12025651089191681341:=0
def tw1400893842743746526:=0
def tw5836570771738110448:=0
def tw12148870679062171610:=0
def tw8485077920673289463:=0
def tw973911379900875826:=0
def tw15864940552301088456:=0
def tw15606272637678306497:=0
def tw476631327826349988:=0
def tw13247627652760371055:=0
def tw5837906697692539729:=0
def tw14843269371378535376:=0
def tw3237931918160191766:=0
def tw967182100439104895:=0
def tw15833975693455482964:=0
def tw6612106970957377863:=0
def tw11360814576422317743:=0
def tw225237717209377338:=0
def tw15527508058878694514:=0
def tw13389537062275555954:=0
def tw16407132318650464544:=0
def tw8754172260885386158:=0
def tw3499349779994594814:=0
def tw287015790267784589:=0
def tw6502893594310979816:=0
def tw12570018911455245058:=0
def tw5432519307434885203:=0
def tw14197672241978428303:=0
def tw8427581776938487609:=0
def tw7852557706065145870:=0
def tw12134333049000433419:=0
def tw4559686798152277461:=0
def tw5667350894905523611:=0
def tw13768451643223403744:=0
def tw9840372398822133367:=0
def tw4644894378733275297:=0
def tw5961263741141922394:=0
def tw16206123652373657861:=0
def tw12655060111177386281:=0
def tw13102047377986940285:=0
def tw8619371267988713191:=0
def tw4992233690143563391:=0
def tw8067156616459563314:=0
def tw15273168081055173989:=0
def tw6322975268606812521:=0
def tw9233906216882781280:=0
def tw8978758252376867438:=0
def tw13107977509949113684:=0
def tw14403722069945817492:=0
def tw5840018022486250606:=0
def tw16182156782599161132:=0
def tw1499410452067824401:=0
def tw14823948537395289377:=0
def tw8800245705502444451:=0
def tw10296622936407507459:=0
def tw14438059502297132515:=0
def tw18214113557760738884:=0
def tw9311876923774235640:=0
def tw6215783384908476791:=0
def tw7363480439516246613:=0
def tw615608431284904204:=0
def tw7132707354345194645:=0
def tw2642119157893948624:=0
def tw12437803310237752378:=0
def tw11257035443975681170:=0
def tw3085739319803884939:=0
def tw18319060728162265593:=0
def tw2180384364608275316:=0
def tw14364786230062832943:=0
def tw7643986817048410773:=0
def tw8311953034178524781:=0
def tw15588344884054412610:=0
def tw16000558326092046839:=0
def tw8752963033924932717:=0
def tw6884553757313926411:=0
def tw5721194709555052986:=0
def tw11147535464024731617:=0
def tw16414655223424768147:=0
def tw15895590747215216169:=0
def tw18220263043840473418:=0
def tw2864406267916119540:=0
def tw16346008801397663:=0
def tw4308645481869381665:=0
def tw13139949914247100835:=0
def tw16273261406317719019:=0
def tw12579425671015941263:=0
def tw16511194138962136322:=0
def tw1154430375776108843:=0
def tw4180664787801268532:=0
def tw8079071630133524290:=0
def tw16065360273791970990:=0
def tw6222267648559576752:=0
def tw16722857699210396580:=0
def tw9610094989817744070:=0
def tw16739482014172540606:=0
def tw4946353978197848233:=0
def tw6401066187915827893:=0
def tw9888887087080248303:=0
def tw11074388147371721114:=0
def tw3521700749197973155:=0
def tw4107824972953087710:=0
def tw17884555004240925588:=0
def tw15936933265611006075:=0
def tw8784114102160380357:=0
def tw15924344954387181270:=0
def tw4224768048987378549:=0
def tw14129113865943986229:=0
def tw17981212982262601779:=0
def tw4864832766092886072:=0
def tw16704997010523570767:=0
def tw7723703407820654347:=0
def tw17298962381175480642:=0
def tw8171262798504122141:=0
def tw7517699439435315517:=0
def tw7909197740584461227:=0
def tw7583519450601091836:=0
def tw12785746609311043814:=0
def tw7659003083084594932:=0
def tw2351286367764686331:=0
def tw4119780432757011145:=0
def tw7705676216569180845:=0
def tw13369474817802941135:=0
def tw7395122957612267441:=0
def tw17778862396988600222:=0
def tw13401905745579453535:=0
def tw1809976711492185931:=0
def tw13164186524026304594:=0
def tw6028307792151765673:=0
def tw9375052843648564036:=0
def tw15336258861901813654:=0
def tw13076478021355037047:=0
def tw2711967434298324269:=0
def tw11450048250572279958:=0
def tw11993678442269229158:=0
def tw4852117868440983730:=0
def tw3524332230578504:=0
def tw13989412422513068877:=0
def tw12812943132404130998:=0
def tw9405511696013919382:=0
def tw4095707860588589876:=0
def tw11477098027682054859:=0
def tw12798924039062764747:=0
def tw17598390086681383725:=0
def tw12561957355001756649:=0
def tw156272853529146387:=0
def tw1108543992805215431:=0
def tw9940849567317248248:=0
def tw3639269431972618442:=0
def tw5096017291809169516:=0
def tw7785280649706901252:=0
def tw13471548939199286838:=0
def tw9680479602570936887:=0
def tw5860771509707546589:=0
def tw16429601930210659491:=0
def tw5110136656211000627:=0
def tw3546092776533788260:=0
def tw18337592540833248545:=0
def tw17796732061947304795:=0
def tw14503848967955104592:=0
def tw6961066925748156666:=0
def tw15403964800358025341:=0
def tw14341164096589873623:=0
def tw16151565526577014083:=0
def tw8737379480633722283:=0
def tw12842627970674532478:=0
def tw17744896352716159507:=0
def tw17490398010002493733:=0
def tw14425734837513780682:=0
def tw7702096642652303351:=0
def tw2714289845638828814:=0
def tw8191376408038304285:=0
def tw13421431981667826410:=0
def tw8028319315355298114:=0
def tw4721065233992091264:=0
def tw3425765625741184078:=0
def tw15054829446323152461:=0
def tw549189437024504454:=0
def tw6237075601592063488:=0
def tw3963948905319065949:=0
def tw13599421435944994544:=0
def tw18293098804452287326:=0
def tw6560343614535656684:=0
def tw9364816395441487325:=0
def tw4165710492096409626:=0
def tw6220060591648051679:=0
def tw10649188582681023026:=0
def tw17543460697287013736:=0
def tw11811775714970087536:=0
def tw9064814325563356432:=0
def tw10566606579424326417:=0
def tw1880262487307885985:=0
def tw16288334266712265749:=0
def tw2422926735017828277:=0
def tw13023408509751390898:=0
def tw6148200082298105489:=0
def tw274459954122617916:=0
def tw6153276776994830704:=0
def tw9311300643165223938:=0
def tw9636724224008633366:=0
def tw17268081307558527767:=0
def tw15244812770567407354:=0
def tw9408355341784999906:=0
def tw11665567466927476100:=0
def tw8853480334555552496:=0
def tw11100492927677422605:=0
def tw9494355765137679617:=0
def tw8027235399658720156:=0
def tw8142698044255268077:=0
def tw10360122498802423272:=0
def tw8819060565752961477:=0
def tw7303670927105069585:=0
def tw3674226949653226335:=0
def tw2422383085450209362:=0
def tw13259202923903046674:=0
def tw10560803868053092604:=0
def tw8100169704142787074:=0
def tw3534314804586382702:=0
def tw6910030215040107529:=0
def tw15839326663936620756:=0
def tw13475521998919469094:=0
def tw12874581754170118789:=0
def tw2890134910878453527:=0
def tw4145837363383191010:=0
def tw12705060462282105714:=0
def tw5342423525869951716:=0
def tw7466301789066199:=0
def tw5486974294464347513:=0
def tw13354770277762714288:=0
def tw7751194382166439995:=0
def tw13272568124184626505:=0
def tw11772062135432346892:=0
def tw11363113102042135271:=0
def tw18326525814773199505:=0
def tw5127594488861564886:=0
def tw2293286491366850916:=0
def tw17146387571838704953:=0
def tw11041893691440410276:=0
def tw11703091377550223751:=0
def tw11997626021074215228:=0
def tw4023950305709316010:=0
def tw9694593576819017381:=0
def tw1098568409702612625:=0
def tw9226507267199387405:=0
def tw15448023531208836951:=0
def tw14848580438815369185:=0
def tw4645639447805656383:=0
def tw10409613118475240348:=0
def tw13740583165397538741:=0
def tw12895543589056470083:=0
def tw17116773671570377421:=0
def tw5840660936026692552:=0
def tw2211024689618494049:=0
def tw8172627913382477037:=0
def tw13942977766593196340:=0
def tw9718873619186865464:=0
def tw5310572353462709966:=0
def tw1922417353139680944:=0
def tw10866066807335545917:=0
def tw15363309717086977414:=0
def tw1499341612987138130:=0
def tw3628111834180507190:=0
def tw13800131057121727937:=0
def tw13876656912130176513:=0
def tw18330130088947010282:=0
def tw7406430717375214582:=0
def tw4963864359299797133:=0
def tw3992641201184200211:=0
def tw6408108902461774686:=0
def tw16146229099049108325:=0
def tw8943957603221671179:=0
def tw14806379784752960787:=0
def tw15455283300363546111:=0
def tw15906472250192558842:=0
def tw7823226670987557343:=0
def tw6789994096201444639:=0
def tw5658741157886623456:=0
def tw11522969120297098680:=0
def tw8259260882319051508:=0
def tw16427413523438124710:=0
def tw2838131302814363381:=0
def tw3522793245854137665:=0
def tw3322356256808223595:=0
def tw15641210833599592673:=0
def tw9269464049608110623:=0
def tw5252893225410822024:=0
def tw5558590726274101660:=0
def tw8854687876821050039:=0
def tw17799876829259550464:=0
def tw5194606585533318665:=0
def tw10303739123655841519:=0
def tw4159626752733540001:=0
def tw1347938196117790782:=0
def tw12229806138554725255:=0
def tw6207889822633839512:=0
def tw4521322434066028427:=0
def tw1157171897179110552:=0
def tw5268329421580183648:=0
def tw12443496658283972736:=0
def tw13192269431430684864:=0
def tw4474955397154909420:=0
def tw7217565563426175666:=0
def tw12164469555292206016:=0
def tw1397889617707309849:=0
def tw13848894861432412762:=0
def tw13732380485560513425:=0
def tw8815250864831768100:=0
def tw5528728538722027116:=0
def tw2262724513918282835:=0
def tw10948882116826278165:=0
def tw15285835446742510668:=0
def tw15989628119614654976:=0
def tw18022953283713668214:=0
def tw36067632433503798:=0
def tw14470388621552920220:=0
def tw7321740148772509714:=0
def tw2629927234577378341:=0
def tw3849827592880151064:=0
def tw13753508380318311409:=0
def tw11043200435888784961:=0
def tw17257993222769572123:=0
def tw6631137335118383828:=0
def tw10501283445994455108:=0
def tw650801766558127168:=0
def tw18369844724048786048:=0
def tw11151448127509347147:=0
def tw2189602480283264266:=0
def tw14809273730337638670:=0
def tw11016886429314756128:=0
def tw6066595785749479530:=0
def tw5293334196262111167:=0
def tw5394925881672125758:=0
def tw2771537692646509461:=0
def tw15794625554701662118:=0
def tw835097412275641333:=0
def tw7951020984796392680:=0
def tw11796236261969502256:=0
def tw8630468676120543538:=0
def tw4794073518346574864:=0
def tw3696726149324527696:=0
def tw5070455491834166117:=0
def tw6917022461101337670:=0
def tw13313774851123843227:=0
def tw1488162364389847892:=0
def tw16277969013658406436:=0
def tw10489487835181492278:=0
def tw6601617277518174393:=0
def tw912904144788474730:=0
def tw4874464558771675126:=0
def tw11618973992308605424:=0
def tw16363396811023319612:=0
def tw3230047454668188113:=0
def tw11288083790240264661:=0
def tw13041167345354317864:=0
def tw9250143525466426804:=0
def tw379145041005660380:=0
def tw3167416357968404077:=0
def tw6531410470330029461:=0
def tw5051688041775522996:=0
def tw4520595538877162636:=0
def tw8813347658766876268:=0
def tw3910589038379939359:=0
def tw4017333230817545022:=0
def tw8079807648672037613:=0
def tw13937478733253333781:=0
def tw6164008595047474946:=0
def tw15596252228491900874:=0
def tw3405392154852177392:=0
def tw17930239522574770406:=0
def tw14673216942919139557:=0
def tw15243215202549122412:=0
def tw10033136863084748574:=0
def tw7857151519616610576:=0
def tw9782136802965690973:=0
def tw8719823199740420941:=0
def tw12382317871499273615:=0
def tw7518140618692176142:=0
def tw4352554168153922339:=0
def tw2120292893012525292:=0
def tw11939488321401111498:=0
def tw12898933302185454132:=0
def tw1753667546000318284:=0
def tw6026039952232314825:=0
def tw1521913715195929052:=0
def tw7417819042356799746:=0
def tw9413388167502641758:=0
def tw10845380506354521284:=0
def tw14875957570638171381:=0
def tw12224980548504490597:=0
def tw13813358601293219304:=0
def tw9901541282302746746:=0
def tw15348383331372489678:=0
def tw10764439160860414051:=0
def tw15324618217150723576:=0
def tw17378120633743146068:=0
def tw419834790522161977:=0
def tw2995400597150921943:=0
def tw13042438884590871932:=0
def tw3138584371417910000:=0
def tw15463964739904066586:=0
def tw2902671750282193047:=0
def tw15780124680558677863:=0
def tw6351401245936615500:=0
def tw388134223114180195:=0
def tw18327250153269134205:=0
def tw369443207615439738:=0
def tw12034025850730196756:=0
def tw15703980297023580593:=0
def tw6719198550631988153:=0
def tw13560947421367895982:=0
def tw8222462683360249416:=0
def tw12317134393991008319:=0
def tw5334546978926636787:=0
def tw16411236503907104750:=0
def tw3152833299259312195:=0
def tw15219605125195466123:=0
def tw11229643484513767590:=0
def tw9773337303146734898:=0
def tw16822761271226211431:=0
def tw861649945883400220:=0
def tw15046119452450316338:=0
def tw13612683981664915115:=0
def tw7283302822563004662:=0
def tw7266021356574641751:=0
def tw10187803043941556117:=0
def tw14834274812504481389:=0
def tw4626140330675971661:=0
def tw2647936981222594712:=0
def tw14118340670990029663:=0
def tw2459962751838064191:=0
def tw1005658022345376576:=0
def tw14904714119264397301:=0
def tw13866679802936529093:=0
def tw16296565003895946175:=0
def tw10361402188025316545:=0
def tw15416057741906825824:=0
def tw4577664223695260766:=0
def tw17831870691425967682:=0
def tw9074530506482108388:=0
def tw6817060223387120830:=0
def tw16337186851444567403:=0
def tw13533857935506889527:=0
def tw448091367870759477:=0
def tw14299942412270036976:=0
def tw13747848739261138265:=0
def tw8895560354417657001:=0
def tw17701433806599334557:=0
def tw3680977824698589537:=0
def tw13830269032501203935:=0
def tw14002539143449077309:=0
def tw9497019129045508579:=0
def tw17043921919248197015:=0
def tw2785604725824283522:=0
def tw15376498991038596423:=0
def tw6910563555881768556:=0
def tw3285338630373128040:=0
def tw12159771385519806610:=0
def tw17670182656944734889:=0
def tw11489253560725703399:=0
def tw8956979468327082172:=0
def tw5022984072512547204:=0
def tw5991120513929373981:=0
def tw15353957935411510242:=0
def tw13760548072704644041:=0
def tw18237847647682991593:=0
def tw5798385472544337449:=0
def tw13303989495244029758:=0
def tw6192069270308548363:=0
def tw13176821479631941972:=0
def tw9382998464120983173:=0
def tw752949742141130299:=0
def tw15402926745652800520:=0
def tw2940569532485071202:=0
def tw13250662695321323285:=0
def tw11047707492224312608:=0
def tw2524236378989496787:=0
end PySem.W.Fast
open PySem PySem.W PyProof.Rows
set_option maxRecDepth 100000 in
set_option maxHeartbeats 0 in
theorem PySem.Challenge.cw_keepyard_k06_whole_by_and_by_holds : PySem.Challenge.rw_keepyard_k06_whole_by_and_by.Holds := by
 w_on;o_law;k_head;(case hw=>w_witness2)
 k_fill
 refine Kp.walk (l:=PySem.Challenge.rw_keepyard_k06_whole_by_and_by) rfl rfl (fun w h Y=>PySem.W.kIn_of Y) ?F
 case F =>
  intro w mg fa h KX G hmg
  refine' Kp.all_mk KX G hmg ?Qhl ?QgT ?Qg0 ?QhI ?QaN ?Qbf ?Qa1 ?Qa7 ?Qa4 ?QaZ ?QaY ?QhY ?QhL ?Qio ?Qg3 ?Qa2 ?Qa9 ?Qbj ?QhC ?QhB ?QhX ?Qig ?QaT ?QaB ?Qbg ?Qf9 ?Qgw ?Qgx ?Qcz ?Qgc ?QbB ?Qbz ?Qba ?QbE ?Qh7 ?QhQ ?Qhd ?Qir ?QhK ?Qh4 ?Qh5 ?Qhm ?Qip ?Qhp ?Qiq ?Qhi ?Qho ?QgV ?QaD ?Qbc ?QaP ?Qa0 ?Qbe ?QaX ?QaR ?Qbw ?QaS ?Qas ?Qao ?Qar ?Qal ?Qae ?Qah ?Qai ?Qab ?Qbd ?Qax ?QaJ ?Qag ?Qad ?Qav ?Qap ?Qau ?Qaa ?Qaz ?QaK ?Qak ?Qan ?Qaf ?QaL ?QaG ?QaE ?QaO ?QaH ?QaF ?Qaq ?QaC ?Qaj ?Qay ?Qat ?Qaw ?Qam ?Qac ?QaW ?QbH ?Qa6 ?QaV ?QaQ ?Qbr ?Qbm ?Qfx ?Qbi ?Qbo ?Qa3 ?Qbt ?Qbn ?Qbq ?Qbh ?Qbu ?QaU ?Qbs ?QaM ?Qbl ?Qbx ?Qa5 ?Qa8 ?QbA ?Qbv ?Qbp ?QbF ?QbC ?Qby ?QaA ?QbD ?Qbk ?QbI ?Qbb ?QbG ?QaI
  case Qhl=>k_is
  (case QgT=>refine' L2.Cls.mk ?Qhr ?QhW ?Qhh ?Qhb;case Qhr|QhW|Qhh|Qhb=>k_is)
  case Qg0|QhI|QaN|Qbf|Qa1|Qa7|Qa4|QaZ|QaY|QhY=>k_is
  (case QhL=>refine' L2.Cls.mk ?QhG ?QgP ?Qhu ?Qhg;case QhG|QgP|Qhu|Qhg=>k_is)
  case Qio|Qg3|Qa2|Qa9|Qbj|QhC=>k_is
  (case QhB=>refine' L2.Cls.mk ?Qg1 ?QgS ?QhS ?Qhf;case Qg1|QgS|QhS|Qhf=>k_is)
  case QhX|Qig|QaT|QaB|Qbg|Qf9|Qgw=>k_is
  (case Qgx=>rfl)
  case Qcz|Qgc|QbB|Qbz|Qba|QbE=>k_is
  (case Qh7=>decide)
  (case QhQ=>decide)
  (case Qhd=>decide)
  case Qir|QhK|Qh4|Qh5|Qhm|Qip|Qhp|Qiq|Qhi|Qho|QgV=>k_is
  (case QaD=>refine' Kp.dR ?QgM ?Qil ?Qhq ?Qg7 ?Qin ?QhZ ?Qhs ?QhO ?Qic ?QgR ?QgQ;(case QgM=>k_is);(case Qil=>k_is);(case Qhq=>k_is);(case Qg7=>k_is);(case Qin=>k_is);(case QhZ=>k_is);(case Qhs=>k_is);case QhO|Qic|QgR|QgQ=>k_is)
  (case Qbc=>refine' Kp.dR ?QhN ?Qif ?QhF ?Qhx ?QgX ?Qik ?QgO ?Qij ?Qih ?Qg9 ?QgW;(case QhN=>k_is);(case Qif=>k_is);(case QhF=>k_is);(case Qhx=>k_is);(case QgX=>k_is);(case Qik=>k_is);(case QgO=>k_is);case Qij|Qih|Qg9|QgW=>k_is)
  (case QaP=>refine' Kp.dR ?Qh1 ?Qg2 ?Qhv ?QhH ?Qhz ?Qhk ?Qhc ?Qg8 ?Qii ?Qim ?Qid;(case Qh1=>k_is);(case Qg2=>k_is);(case Qhv=>k_is);(case QhH=>k_is);(case Qhz=>k_is);(case Qhk=>k_is);(case Qhc=>k_is);case Qg8|Qii|Qim|Qid=>k_is)
  (case Qa0=>refine' Kp.dR ?Qib ?Qhy ?QhE ?QhM ?Qht ?Qh6 ?Qhj ?Qhw ?QgZ ?Qg5 ?QhV;(case Qib=>k_is);(case Qhy=>k_is);(case QhE=>k_is);(case QhM=>k_is);(case Qht=>k_is);(case Qh6=>k_is);(case Qhj=>k_is);case Qhw|QgZ|Qg5|QhV=>k_is)
  (case Qbe=>refine' Kp.dR ?QgN ?Qia ?Qg6 ?Qh2 ?QgY ?QhT ?QgU ?Qhe ?Qha ?Qh8 ?Qie;(case QgN=>k_is);(case Qia=>k_is);(case Qg6=>k_is);(case Qh2=>k_is);(case QgY=>k_is);(case QhT=>k_is);(case QgU=>k_is);case Qhe|Qha|Qh8|Qie=>k_is)
  (case QaX=>refine' Kp.dR ?QhP ?Qhn ?Qh9 ?Qg4 ?QhA ?Qh0 ?QhD ?Qh3 ?QhJ ?QhU ?QhR;(case QhP=>k_is);(case Qhn=>k_is);(case Qh9=>k_is);(case Qg4=>k_is);(case QhA=>k_is);(case Qh0=>k_is);(case QhD=>k_is);case Qh3|QhJ|QhU|QhR=>k_is)
  (case QaR=>refine' Kp.dR ?QfK ?QcE ?QcT ?Qgt ?Qe3 ?Qdw ?Qgi ?Qel ?QeM ?QfR ?Qb1;(case QfK=>k_is);(case QcE=>k_is);(case QcT=>k_is);(case Qgt=>k_is);(case Qe3=>k_is);(case Qdw=>k_is);(case Qgi=>k_is);case Qel|QeM|QfR|Qb1=>k_is)
  (case Qbw=>refine' Kp.dR ?Qdl ?Qdy ?Qdr ?QeO ?QbS ?Qdd ?Qfr ?QcB ?QeL ?Qfe ?Qfl;(case Qdl=>k_is);(case Qdy=>k_is);(case Qdr=>k_is);(case QeO=>k_is);(case QbS=>k_is);(case Qdd=>k_is);(case Qfr=>k_is);case QcB|QeL|Qfe|Qfl=>k_is)
  (case QaS=>refine' Kp.dR ?QdC ?QdP ?Qc8 ?Qe9 ?QfO ?Qfc ?QbV ?Qdo ?QbR ?Qgl ?Qfi;(case QdC=>k_is);(case QdP=>k_is);(case Qc8=>k_is);(case Qe9=>k_is);(case QfO=>k_is);(case Qfc=>k_is);(case QbV=>k_is);case Qdo|QbR|Qgl|Qfi=>k_is)
  (case Qas=>refine' Kp.aY ?QdT ?QfG ?Qd9 ?Qeq ?Qd0;(case QdT=>k_is);(case QfG=>k_is);case Qd9|Qeq|Qd0=>k_is)
  (case Qao=>refine' Kp.aY ?Qe6 ?Qff ?Qew ?QeF ?Qer;(case Qe6=>k_is);(case Qff=>k_is);case Qew|QeF|Qer=>k_is)
  (case Qar=>refine' Kp.aY ?QcU ?Qge ?Qcm ?QfX ?Qb8;(case QcU=>k_is);(case Qge=>k_is);case Qcm|QfX|Qb8=>k_is)
  (case Qal=>refine' Kp.aY ?Qfb ?Qee ?Qgz ?Qd6 ?Qce;(case Qfb=>k_is);(case Qee=>k_is);case Qgz|Qd6|Qce=>k_is)
  (case Qae=>refine' Kp.aY ?Qe4 ?QfW ?Qga ?Qfv ?QeQ;(case Qe4=>k_is);(case QfW=>k_is);case Qga|Qfv|QeQ=>k_is)
  (case Qah=>refine' Kp.aY ?QeY ?Qft ?QdQ ?QfV ?Qf5;(case QeY=>k_is);(case Qft=>k_is);case QdQ|QfV|Qf5=>k_is)
  (case Qai=>refine' Kp.aY ?Qcn ?Qcd ?QfD ?Qgd ?Qfs;(case Qcn=>k_is);(case Qcd=>k_is);case QfD|Qgd|Qfs=>k_is)
  (case Qab=>refine' Kp.aY ?QgB ?QgF ?QgE ?Qf3 ?QcF;(case QgB=>k_is);(case QgF=>k_is);case QgE|Qf3|QcF=>k_is)
  (case Qbd=>refine' Kp.bo ?Qgv ?Qe5 ?Qgo ?Qe7;case Qgv|Qe5|Qgo|Qe7=>k_is)
  (case Qax=>refine' Kp.bo ?QdY ?QfY ?QcX ?Qch;case QdY|QfY|QcX|Qch=>k_is)
  (case QaJ=>refine' Kp.aY ?Qdj ?QdN ?Qfy ?QeJ ?QfF;(case Qdj=>k_is);(case QdN=>k_is);case Qfy|QeJ|QfF=>k_is)
  (case Qag=>refine' Kp.aY ?QcZ ?Qen ?Qfp ?QdU ?Qc9;(case QcZ=>k_is);(case Qen=>k_is);case Qfp|QdU|Qc9=>k_is)
  (case Qad=>refine' Kp.aY ?QfI ?QdF ?QeT ?QgJ ?QcA;(case QfI=>k_is);(case QdF=>k_is);case QeT|QgJ|QcA=>k_is)
  (case Qav=>refine' Kp.aY ?Qet ?QcQ ?QfC ?Qfk ?Qea;(case Qet=>k_is);(case QcQ=>k_is);case QfC|Qfk|Qea=>k_is)
  (case Qap=>refine' Kp.aY ?Qd1 ?Qf2 ?QcJ ?QbY ?Qex;(case Qd1=>k_is);(case Qf2=>k_is);case QcJ|QbY|Qex=>k_is)
  (case Qau=>refine' Kp.aY ?QdR ?QeP ?Qgs ?Qc4 ?Qf6;(case QdR=>k_is);(case QeP=>k_is);case Qgs|Qc4|Qf6=>k_is)
  (case Qaa=>refine' Kp.aY ?Qgg ?QbN ?Qb4 ?Qgf ?QdV;(case Qgg=>k_is);(case QbN=>k_is);case Qb4|Qgf|QdV=>k_is)
  (case Qaz=>refine' Kp.aY ?Qe8 ?Qe0 ?QbX ?QcP ?Qec;(case Qe8=>k_is);(case Qe0=>k_is);case QbX|QcP|Qec=>k_is)
  (case QaK=>refine' Kp.aY ?QfJ ?QbQ ?QbM ?Qfm ?Qeg;(case QfJ=>k_is);(case QbQ=>k_is);case QbM|Qfm|Qeg=>k_is)
  (case Qak=>refine' Kp.aY ?Qgk ?Qed ?Qeb ?QcS ?Qc0;(case Qgk=>k_is);(case Qed=>k_is);case Qeb|QcS|Qc0=>k_is)
  (case Qan=>refine' Kp.aY ?Qfj ?Qfn ?Qb7 ?Qc5 ?QfA;(case Qfj=>k_is);(case Qfn=>k_is);case Qb7|Qc5|QfA=>k_is)
  (case Qaf=>refine' Kp.aY ?Qep ?QdX ?QeR ?Qej ?Qc6;(case Qep=>k_is);(case QdX=>k_is);case QeR|Qej|Qc6=>k_is)
  (case QaL=>refine' Kp.aY ?QeA ?Qcu ?QbL ?Qd3 ?QbO;(case QeA=>k_is);(case Qcu=>k_is);case QbL|Qd3|QbO=>k_is)
  (case QaG=>refine' Kp.aY ?QcC ?Qcx ?QdL ?QbK ?QeV;(case QcC=>k_is);(case Qcx=>k_is);case QdL|QbK|QeV=>k_is)
  (case QaE=>refine' Kp.aY ?Qds ?Qcs ?Qeh ?Qgu ?Qdn;(case Qds=>k_is);(case Qcs=>k_is);case Qeh|Qgu|Qdn=>k_is)
  (case QaO=>refine' Kp.aY ?QdI ?Qey ?Qcq ?QfB ?QeX;(case QdI=>k_is);(case Qey=>k_is);case Qcq|QfB|QeX=>k_is)
  (case QaH=>refine' Kp.aY ?Qc7 ?QdS ?QfT ?QdK ?QeB;(case Qc7=>k_is);(case QdS=>k_is);case QfT|QdK|QeB=>k_is)
  (case QaF=>refine' Kp.aY ?Qcp ?Qe2 ?QbJ ?Qfh ?QgK;(case Qcp=>k_is);(case Qe2=>k_is);case QbJ|Qfh|QgK=>k_is)
  (case Qaq=>refine' Kp.aY ?Qca ?Qcb ?Qfo ?QeG ?Qb5;(case Qca=>k_is);(case Qcb=>k_is);case Qfo|QeG|Qb5=>k_is)
  (case QaC=>refine' Kp.aY ?Qes ?QeN ?Qd8 ?Qc3 ?QgH;(case Qes=>k_is);(case QeN=>k_is);case Qd8|Qc3|QgH=>k_is)
  (case Qaj=>refine' Kp.aY ?Qb6 ?Qdp ?Qgh ?Qgq ?QcD;(case Qb6=>k_is);(case Qdp=>k_is);case Qgh|Qgq|QcD=>k_is)
  (case Qay=>refine' Kp.aY ?QeZ ?QbP ?QgD ?Qfu ?Qdx;(case QeZ=>k_is);(case QbP=>k_is);case QgD|Qfu|Qdx=>k_is)
  (case Qat=>refine' Kp.aY ?QbT ?QcN ?QdO ?QcY ?Qef;(case QbT=>k_is);(case QcN=>k_is);case QdO|QcY|Qef=>k_is)
  (case Qaw=>refine' Kp.aY ?Qb3 ?Qb9 ?QcL ?QeW ?Qd5;(case Qb3=>k_is);(case Qb9=>k_is);case QcL|QeW|Qd5=>k_is)
  (case Qam=>refine' Kp.aY ?Qez ?Qek ?Qdt ?QfN ?QgA;(case Qez=>k_is);(case Qek=>k_is);case Qdt|QfN|QgA=>k_is)
  (case Qac=>refine' Kp.aY ?QcM ?QfQ ?QdZ ?QdD ?QgC;(case QcM=>k_is);(case QfQ=>k_is);case QdZ|QdD|QgC=>k_is)
  (case QaW=>refine' Kp.bo ?QcI ?QeU ?Qf8 ?QgL;case QcI|QeU|Qf8|QgL=>k_is)
  (case QbH=>refine' Kp.bo ?Qcw ?QbU ?Qck ?Qfz;case Qcw|QbU|Qck|Qfz=>k_is)
  (case Qa6=>refine' Kp.bo ?Qgr ?Qe1 ?QeE ?Qdm;case Qgr|Qe1|QeE|Qdm=>k_is)
  (case QaV=>refine' Kp.bo ?QdG ?QfU ?Qdu ?Qdb;case QdG|QfU|Qdu|Qdb=>k_is)
  (case QaQ=>refine' Kp.bo ?QdJ ?Qdk ?QfE ?QfZ;case QdJ|Qdk|QfE|QfZ=>k_is)
  (case Qbr=>refine' Kp.bo ?Qgp ?QdE ?Qfd ?Qgb;case Qgp|QdE|Qfd|Qgb=>k_is)
  (case Qbm=>refine' Kp.bo ?QeC ?QgG ?QcH ?Qcf;case QeC|QgG|QcH|Qcf=>k_is)
  (case Qfx=>refine' Kp.bo ?QgI ?QdW ?Qf0 ?Qde;case QgI|QdW|Qf0|Qde=>k_is)
  (case Qbi=>refine' Kp.bo ?Qcr ?Qd7 ?Qgn ?Qcy;case Qcr|Qd7|Qgn|Qcy=>k_is)
  (case Qbo=>refine' Kp.bo ?QeK ?QcO ?QcW ?Qdz;case QeK|QcO|QcW|Qdz=>k_is)
  (case Qa3=>refine' Kp.bo ?Qci ?Qdq ?Qcc ?Qeu;case Qci|Qdq|Qcc|Qeu=>k_is)
  (case Qbt=>refine' Kp.bo ?Qco ?Qev ?Qeo ?Qem;case Qco|Qev|Qeo|Qem=>k_is)
  (case Qbn=>refine' Kp.bo ?QfH ?QdM ?Qd2 ?Qdv;case QfH|QdM|Qd2|Qdv=>k_is)
  (case Qbq=>refine' Kp.bo ?Qb2 ?Qcg ?QbZ ?QfP;case Qb2|Qcg|QbZ|QfP=>k_is)
  (case Qbh=>refine' Kp.bo ?Qf1 ?Qdg ?Qf4 ?Qct;case Qf1|Qdg|Qf4|Qct=>k_is)
  (case Qbu=>refine' Kp.bo ?Qdh ?Qd4 ?QeI ?QeS;case Qdh|Qd4|QeI|QeS=>k_is)
  (case QaU=>refine' Kp.bo ?Qcv ?QcR ?QeD ?QfL;case Qcv|QcR|QeD|QfL=>k_is)
  (case Qbs=>refine' Kp.bo ?Qc1 ?Qei ?Qgm ?Qf7;case Qc1|Qei|Qgm|Qf7=>k_is)
  (case QaM=>refine' Kp.bo ?Qc2 ?QbW ?Qgj ?Qdf;case Qc2|QbW|Qgj|Qdf=>k_is)
  (case Qbl=>refine' Kp.bo ?Qcl ?Qda ?QdA ?QfM;case Qcl|Qda|QdA|QfM=>k_is)
  (case Qbx=>refine' Kp.bo ?QdH ?Qgy ?Qdc ?Qfq;case QdH|Qgy|Qdc|Qfq=>k_is)
  (case Qa5=>refine' Kp.bo ?Qcj ?Qdi ?Qb0 ?QcK;case Qcj|Qdi|Qb0|QcK=>k_is)
  (case Qa8=>refine' Kp.bo ?Qfg ?QcG ?Qfa ?Qfw;case Qfg|QcG|Qfa|Qfw=>k_is)
  (case QbA=>refine' Kp.bo ?QfS ?QcV ?QeH ?QdB;case QfS|QcV|QeH|QdB=>k_is)
  case Qbv|Qbp|QbF|QbC|Qby|QaA|QbD|Qbk|QbI|Qbb|QbG|QaI=>k_is
