import PyProof.Rows.All
import Wide.All
import OpenK.AllK
import Wide.FinOn
import PyProof.EqAt
import PyProof.EqKinds
import PyProof.TupleCall
import KE.BitLaws
import KE.KDictLaws
import Open.SpecLaws
import KE.OsHead
import KE.OsGo
import PySem.Challenge.RW_holding_s01_judge
set_option Elab.async false
set_option linter.all false
set_option maxRecDepth 100000
namespace L2
open PySem PySem.Spec PyProof.Rows
noncomputable abbrev Key:=Sum Int Str
noncomputable def keyIs:Key→Value→Bool
 | .inl k,v=>Value.isInt k v
 | .inr x,v=>Value.isStrOf x v
noncomputable def keyH (w:World):Key→Int
 | .inl k=>hashInt k
 | .inr x=>hashStr w x
theorem keyIs_shape:∀ {k:Key} {v:Value},keyIs k v=true→(∃ i t,k=Sum.inl i∧v=Value.int i t)∨(∃ x t,k=Sum.inr x∧v=Value.str x t)
 | .inl i,v,h=>by
   obtain ⟨t,e⟩:=Value.isInt_shape (k:=i) (v:=v) h
   exact .inl ⟨i,t,rfl,e⟩
 | .inr x,v,h=>by
   obtain ⟨t,e⟩:=Value.isStrOf_shape (x:=x) (v:=v) h;exact .inr ⟨x,t,rfl,e⟩
theorem keyIs_int (i:Int) (t:Tok):keyIs (.inl i) (.int i t)=true:=by simp [keyIs,Value.isInt]
theorem keyIs_str (x:Str) (t:Tok):keyIs (.inr x) (.str x t)=true:=by simp [keyIs,Value.isStrOf]
theorem key_ll (a b:Int):decide ((Sum.inl a:Key)=Sum.inl b)=(a == b):=by
 by_cases e:a=b
 · subst e; simp
 · have h:¬ (Sum.inl a:Key)=Sum.inl b:=fun q=>e (Sum.inl.inj q);rw [decide_eq_false h];exact (beq_eq_false_iff_ne.mpr e).symm
theorem key_rr (a b:Str):decide ((Sum.inr a:Key)=Sum.inr b)=decide (a=b):=by
 by_cases e:a=b
 · subst e; simp
 · have h:¬ (Sum.inr a:Key)=Sum.inr b:=fun q=>e (Sum.inr.inj q);rw [decide_eq_false h,decide_eq_false e]
theorem key_lr (a:Int) (b:Str):decide ((Sum.inl a:Key)=Sum.inr b)=false:=decide_eq_false (fun q=>nomatch q)
theorem key_rl (a:Str) (b:Int):decide ((Sum.inr a:Key)=Sum.inl b)=false:=decide_eq_false (fun q=>nomatch q)
noncomputable def mixKind (prog:Program) (w:World):PySem.KeyKind prog w Key where
 is:=keyIs
 hash:=keyH w
 inj:=fun v a b ha hb=>by
   rcases keyIs_shape ha with ⟨i,t,rfl,rfl⟩ | ⟨x,t,rfl,rfl⟩
   · rcases keyIs_shape hb with ⟨j,u,rfl,e⟩ | ⟨y,u,rfl,e⟩
     · injection e with e1 _; rw [e1]
     · exact nomatch e
   · rcases keyIs_shape hb with ⟨j,u,rfl,e⟩ | ⟨y,u,rfl,e⟩
     · exact nomatch e
     · injection e with e1 _; rw [e1]
 byValue:=fun k v h=>by
   rcases keyIs_shape h with ⟨i,t,rfl,rfl⟩ | ⟨x,t,rfl,rfl⟩ <;> rfl
 pyHash:=fun hv h=>by
   rcases keyIs_shape hv with ⟨i,t,rfl,rfl⟩ | ⟨x,t,rfl,rfl⟩
   · exact wpAny_pyHash_int h
   · exact wpAny_pyHash_str h
 eqBool:=fun hu hv h=>by
   rcases keyIs_shape hu with ⟨i,t,rfl,rfl⟩ | ⟨x,t,rfl,rfl⟩
   · rcases keyIs_shape hv with ⟨j,u,rfl,rfl⟩ | ⟨y,u,rfl,rfl⟩
     · rw [key_ll] at h; exact wpAny_eqBool_int h
     · rw [key_lr] at h; exact SeqAt.EqAt.int_str i t y u _ _ _ _ h
   · rcases keyIs_shape hv with ⟨j,u,rfl,rfl⟩ | ⟨y,u,rfl,rfl⟩
     · rw [key_rl] at h; exact SeqAt.EqAt.str_int x t j u _ _ _ _ h
     · rw [key_rr] at h; exact wpAny_eqBool_str h
 «strs»:=fun k x t v h=>by
   rcases keyIs_shape h with ⟨i,u,rfl,e⟩ | ⟨y,u,rfl,e⟩
   · exact nomatch e
   · injection e with e1 _;subst e1;cases v <;> rfl
theorem mixKind_int (prog:Program) (w:World) (i:Int) (t:Tok):(mixKind prog w).is (.inl i) (.int i t)=true:=keyIs_int i t
theorem mixKind_str (prog:Program) (w:World) (x:Str) (t:Tok):(mixKind prog w).is (.inr x) (.str x t)=true:=keyIs_str x t
end L2
namespace L2
open PySem PySem.Spec PyProof.Rows
inductive V where
 | non | bl (b:Bool) | int (i:Int) | str (x:Str) | byt (b:Array UInt8) | flt (b:UInt64) | ref (a:Addr) | ty (n:String)
 deriving DecidableEq
noncomputable def RelV:V→Value→Prop
 | .non,u=>u=Value.none
 | .bl b,u=>u=Value.bool b
 | .int i,u=>∃ t,u=Value.int i t
 | .str x,u=>∃ t,u=Value.str x t
 | .byt b,u=>∃ t,u=Value.bytes b t
 | .flt b,u=>∃ t,u=Value.float b t
 | .ref a,u=>u=Value.ref a
 | .ty n,u=>u=Value.type n
noncomputable abbrev Vals:List V→List Value→Prop:=Paired RelV
theorem Vals.length {xs:List V} {us:List Value} (r:Vals xs us):xs.length=us.length:=Paired.length r
theorem Vals.get:∀ {xs:List V} {us:List Value} {i:Nat} {x:V},Vals xs us→xs[i]? = some x→∃ u,us[i]? = some u∧RelV x u
 | _,_,_,_,.nil,e=>by simp at e
 | _,_,0,_,.cons r _,e=>by simp at e; subst e; exact ⟨_,rfl,r⟩
 | _,_,i+1,x,.cons _ t,e=>by
   obtain ⟨u,h1,h2⟩:=Vals.get (i:=i) (x:=x) t (by simpa using e);exact ⟨u,by simpa using h1,h2⟩
theorem Vals.set {x:V} {u:Value} (r:RelV x u):∀ {xs:List V} {us:List Value} (i:Nat),Vals xs us→Vals (xs.set i x) (us.set i u)
 | _,_,_,.nil=>.nil
 | _,_,0,.cons _ t=>.cons r t
 | _,_,i+1,.cons q t=>.cons q (Vals.set r i t)
theorem Vals.append:∀ {xs ys:List V} {us ws:List Value},Vals xs us→Vals ys ws→Vals (xs++ys) (us++ws)
 | _,_,_,_,.nil,s=>s
 | _,_,_,_,.cons r t,s=>.cons r (Vals.append t s)
theorem Vals.take:∀ {xs:List V} {us:List Value} (n:Nat),Vals xs us→Vals (xs.take n) (us.take n)
 | _,_,0,_=>.nil
 | _,_,_+1,.nil=>.nil
 | _,_,n+1,.cons r t=>.cons r (Vals.take n t)
theorem Vals.drop:∀ {xs:List V} {us:List Value} (n:Nat),Vals xs us→Vals (xs.drop n) (us.drop n)
 | _,_,0,r=>r
 | _,_,_+1,.nil=>.nil
 | _,_,n+1,.cons _ t=>Vals.drop n t
noncomputable def RelO:Option V→Option Value→Prop
 | some v,some u=>RelV v u
 | none,none=>True
 | _,_=>False
noncomputable def KV {κ:Type}:List (κ × V)→List (κ × Value)→Prop:=Paired fun (p:κ × V) (q:κ × Value)=>p.1=q.1∧RelV p.2 q.2
noncomputable def kV:Key→V
 | .inl i=>.int i
 | .inr x=>.str x
inductive HO where
 | lst (xs:List V)
 | tup (xs:List V)
 | dK (kvs:List (Key × V)) | dT (kvs:List (List Key × V))
 | set (S:Int→Bool) (n:Nat)
 | ins (C dx:Addr) (fs:List (Str × V))
 | own (x:Addr)
 | xd (fs:List (Str × V))
 | met (f x:Addr)
 | rng (lo hi:Int)
 | frz (o:Obj) (u:HO)
 | tbl (ps:Array Value)
 | ext (φ:Heap→Prop)
noncomputable abbrev Hp:=Addr→Option HO
noncomputable def upd (H:Hp) (a:Addr) (o:HO):Hp:=fun b=>if b=a then some o else H b
theorem upd_same {H:Hp} {a:Addr} {o:HO}:upd H a o a=some o:=by unfold upd; rw [if_pos rfl]
theorem upd_ne {H:Hp} {a b:Addr} {o:HO} (h:b≠a):upd H a o b=H b:=by unfold upd; rw [if_neg h]
theorem upd_upd {H:Hp} {a:Addr} {o u:HO}:upd (upd H a o) a u=upd H a u:=by
 funext b; unfold upd; split <;> rfl
theorem ne_of {H:Hp} {a b:Addr} {o u:HO} (h:H a=some o) (h':H b=some u) (d:o≠u):a≠b:=by
 intro e; subst e; rw [h] at h'; exact d (Option.some.inj h')
theorem ne_of_none {H:Hp} {a b:Addr} {o:HO} (h:H a=some o) (h':H b=none):a≠b:=by
 intro e; subst e; rw [h] at h'; cases h'
section
variable (P:Program) (w:World)
noncomputable def ObjOk (H:Hp) (h:Heap) (a:Addr):HO→Prop
 | .lst xs=>xs.length≤sizeLine∧∃ (its:List Value) (n:Nat),Vals xs its∧h.get? a=some { cls:=.type "list",data:=.seq its.toArray n }
 | .tup xs=>xs.length≤sizeLine∧∃ its:List Value,Vals xs its∧IsTup h a its.toArray
 | .dK kvs=>kvs.length≤sizeLine∧(a == sysModules)=false∧∃ vs,KV kvs vs∧h.DictOf (mixKind P w) a vs
 | .dT kvs=>kvs.length≤sizeLine∧(a == sysModules)=false∧∃ xs:List (List Key × Addr × Value),
     Paired (fun (p:List Key × V) (q:List Key × Addr × Value)=>p.1=q.1∧H q.2.1=some (.tup (p.1.map kV))∧RelV p.2 q.2.2) kvs xs ∧
     ∃ o es ep,h.get? a=some o∧o.ExactDict∧o.data = .dict es ep∧es.toList=xs.map (entryOfKey (tupleKind (mixKind P w)))∧(xs.map (·.1)).Nodup
 | .set S n=>h.SetOf (intKind P w) a S n
 | .ins C dx fs=>H dx=some (.own a)∧fs.length≤1000∧dx≠a∧h.get? a=some (PySem.W.instObj C dx) ∧
     ∃ mA,h.Ns1 dx mA∧(∀ f,RelO (fs.lookup f) (mA f))∧PySem.Within mA (fs.map (·.1))
 | .own _=>∃ o,h.get? a=some o
 | .xd fs=>∃ mA,h.Ns1 a mA∧∀ f,RelO (fs.lookup f) (mA f)
 | .rng lo hi=>∃ t u v,h.get? a=some { cls:=.type "range",data:=.fields #[.int lo t,.int hi u,.int 1 v] }
 | .frz o u=>h.get? a=some o∧ObjOk H h a u
 | .tbl ps=>h.get? a=some { cls:=.none,data:=.fields ps }
 | .met f x=>h.get? a=some (PySem.W.methodObj (.ref f) (.ref x))
 | .ext φ=>φ h∧(∃ o,h.get? a=some o)∧∀ h1 h2:Heap,φ h1→(∀ o,h1.get? a=some o→h2.get? a=some o)→φ h2
noncomputable def HOk (H:Hp) (h:Heap):Prop:=∀ a o,H a=some o→ObjOk P w H h a o
end
section
variable {P:Program} {w:World} {H H':Hp} {h h':Heap} {a:Addr} {o:HO}
theorem ObjOk.lt (x:ObjOk P w H h a o):a < h.objs.size:=by
 cases o with
 | lst xs=>obtain ⟨_,_,_,_,e⟩:=x; exact Heap.lt_size e
 | tup xs=>obtain ⟨_,_,_,p⟩:=x; exact p.lt
 | dK kvs=>obtain ⟨_,_,_,_,o,_,_,e,_⟩:=x; exact Heap.lt_size e
 | dT kvs=>obtain ⟨_,_,_,_,o,_,_,e,_⟩:=x; exact Heap.lt_size e
 | set S n=>obtain ⟨o,_,_,_,e,_⟩:=x; exact Heap.lt_size e
 | ins C dx fs=>obtain ⟨_,_,_,e,_⟩:=x; exact Heap.lt_size e
 | own y=>obtain ⟨_,e⟩:=x; exact Heap.lt_size e
 | xd fs=>obtain ⟨_,⟨_,_,_,e,_⟩,_⟩:=x; exact Heap.lt_size e
 | rng lo hi=>obtain ⟨_,_,_,e⟩:=x; exact Heap.lt_size e
 | frz ob u=>obtain ⟨e,_⟩:=x; exact Heap.lt_size e
 | tbl ps=>exact Heap.lt_size (show h.get? a=some _ from x)
 | met f y=>exact Heap.lt_size (show h.get? a=some _ from x)
 | ext φ=>obtain ⟨_,⟨_,e⟩,_⟩:=x; exact Heap.lt_size e
theorem Paired.mapP {α β:Type} {F G:α→β→Prop}:∀ {l₁:List α} {l₂:List β},Paired F l₁ l₂→(∀ a b,F a b→G a b)→Paired G l₁ l₂
 | _,_,.nil,_=>.nil
 | _,_,.cons r t,f=>.cons (f _ _ r) (Paired.mapP t f)
theorem ObjOk.stay (x:ObjOk P w H h a o) (k:∀ b u,(b=a∨H b=some (.own a))→h.get? b=some u→h'.get? b=some u)
   (ho:∀ b,H b=some (.own a)→H' b=some (.own a)) (ht:∀ b xs,H b=some (.tup xs)→H' b=some (.tup xs)):ObjOk P w H' h' a o:=by
 induction o with
 | lst xs=>obtain ⟨z,its,n,r,e⟩:=x; exact ⟨z,its,n,r,k _ _ (.inl rfl) e⟩
 | tup xs=>obtain ⟨z,its,r,ob,e,c⟩:=x; exact ⟨z,its,r,ob,k _ _ (.inl rfl) e,c⟩
 | dK kvs=>obtain ⟨z,y,vs,r,ob,es,ep,e,c⟩:=x; exact ⟨z,y,vs,r,ob,es,ep,k _ _ (.inl rfl) e,c⟩
 | dT kvs =>
   obtain ⟨z,y,xs,r,ob,es,ep,e,c⟩:=x
   exact ⟨z,y,xs,Paired.mapP r fun p q z=>⟨z.1,ht _ _ z.2.1,z.2.2⟩,ob,es,ep,k _ _ (.inl rfl) e,c⟩
 | set S n=>obtain ⟨ob,es,ep,t,e,c⟩:=x; exact ⟨ob,es,ep,t,k _ _ (.inl rfl) e,c⟩
 | ins C dx fs =>
   obtain ⟨d,z,ne,e,mA,⟨od,es,ep,e2,c⟩,r⟩:=x
   exact ⟨ho _ d,z,ne,k _ _ (.inl rfl) e,mA,⟨od,es,ep,k _ _ (.inr d) e2,c⟩,r⟩
 | own y=>obtain ⟨ob,e⟩:=x; exact ⟨ob,k _ _ (.inl rfl) e⟩
 | xd fs=>obtain ⟨mA,⟨od,es,ep,e,c⟩,r⟩:=x; exact ⟨mA,⟨od,es,ep,k _ _ (.inl rfl) e,c⟩,r⟩
 | rng lo hi=>obtain ⟨t,u,v,e⟩:=x; exact ⟨t,u,v,k _ _ (.inl rfl) e⟩
 | frz ob u ih=>obtain ⟨e,q⟩:=x; exact ⟨k _ _ (.inl rfl) e,ih q⟩
 | tbl ps =>
   have e:h.get? a=some { cls:=.none,data:=.fields ps }:=x;show h'.get? a=some { cls:=.none,data:=.fields ps }
   exact k a _ (.inl rfl) e
 | met f y =>
   have e:h.get? a=some (PySem.W.methodObj (.ref f) (.ref y)):=x;show h'.get? a=some (PySem.W.methodObj (.ref f) (.ref y))
   exact k a _ (.inl rfl) e
 | ext φ=>obtain ⟨p,⟨o,e⟩,st⟩:=x; exact ⟨st _ _ p fun o q=>k _ _ (.inl rfl) q,⟨o,k _ _ (.inl rfl) e⟩,st⟩
theorem HOk.lt (x:HOk P w H h) (e:H a=some o):a < h.objs.size:=(x a o e).lt
theorem HOk.fresh (x:HOk P w H h) (e:h.objs.size≤a):H a=none:=by
 cases q:H a with
 | none=>rfl
 | some u=>exact absurd (Nat.lt_of_lt_of_le (x.lt q) e) (Nat.lt_irrefl _)
theorem HOk.kept (x:HOk P w H h) (k:∀ b u,h.get? b=some u→h'.get? b=some u):HOk P w H h':=fun a o e =>
 (x a o e).stay (fun b u _ q=>k b u q) (fun _ q=>q) fun _ _ q=>q
theorem HOk.laid (x:HOk P w H h) (k:∀ b u,h.get? b=some u→h'.get? b=some u) (hp:h.objs.size≤a) (new:ObjOk P w (upd H a o) h' a o):HOk P w (upd H a o) h':=fun b u e=>by
 have hn:=x.fresh hp;by_cases hb:b=a
 · subst hb; rw [upd_same] at e; cases e; exact new
 · rw [upd_ne hb] at e;exact (x b u e).stay (fun c v _ q=>k c v q) (fun c q=>by rw [upd_ne (ne_of_none q hn)]; exact q) fun c xs q=>by rw [upd_ne (ne_of_none q hn)]; exact q
end
noncomputable def Rd (H:Hp) (a:Addr) (u:HO):Prop:=H a=some u∨∃ o,H a=some (.frz o u)
theorem Rd.of {H:Hp} {a:Addr} {u:HO} (h:H a=some u):Rd H a u:=.inl h
theorem Rd.ok {P:Program} {w:World} {H:Hp} {h:Heap} {a:Addr} {u:HO} (r:Rd H a u) (x:HOk P w H h):ObjOk P w H h a u:=by
 rcases r with r | ⟨o,r⟩
 · exact x a u r
 · obtain ⟨_,q⟩:=x a _ r;exact q
noncomputable def Mut:Option HO→Prop
 | some (.lst _)=>True
 | some (.dK _)=>True
 | some (.dT _)=>True
 | some (.set _ _)=>True
 | some (.ins _ _ _)=>True
 | some (.ext _)=>True
 | _=>False
section
variable {P:Program} {w:World} {H:Hp} {h h':Heap} {x e:Addr} {o':HO}
theorem HOk.write (ok:HOk P w H h) (mu:Mut (H x)) (he:e=x∨H e=some (.own x)) (k:∀ b u,b≠e→h.get? b=some u→h'.get? b=some u) (heo:∃ u,h'.get? e=some u)
   (new:ObjOk P w (upd H x o') h' x o'):HOk P w (upd H x o') h':=fun b u q=>by
 have nown:∀ c y,H c=some (.own y)→c≠x:=fun c y r z=>by subst z; rw [r] at mu; exact mu
 have ntup:∀ c xs,H c=some (.tup xs)→c≠x:=fun c xs r z=>by subst z; rw [r] at mu; exact mu
 by_cases hb:b=x
 · subst hb; rw [upd_same] at q; cases q; exact new
 · rw [upd_ne hb] at q;by_cases hbe:b=e
   · have q':H b=some (.own x):=by
       rcases he with z | z
       · exact absurd (hbe.trans z) hb
       · rw [hbe]; exact z
     rw [q] at q'; cases q';obtain ⟨v,hv⟩:=heo;exact ⟨v,by rw [hbe]; exact hv⟩
   · refine (ok b u q).stay (fun c v hc r=>k c v ?_ r) (fun c r=>by rw [upd_ne (nown c b r)]; exact r) fun c xs r=>by rw [upd_ne (ntup c xs r)]; exact r
     rcases hc with rfl | hc
     · exact hbe
     · rintro rfl;rcases he with z | z
       · exact nown c b hc z
       · rw [hc] at z; cases z; exact hb rfl
end
structure Un (fs ex:List Addr) (H H':Hp) (h h':Heap):Prop where
 keep:∀ b o,h.get? b=some o→H b=none→b ∉ fs→b ∉ ex→h'.get? b=some o
 slot:∀ b o,h.get? b=some o→H b=none→b∈fs→b ∉ ex→∃ sl,h'.get? b=some { o with slots:=sl }
 free:∀ b o,h.get? b=some o→H b=none→b ∉ ex→H' b=none
 there:∀ b o,h.get? b=some o→b ∉ ex→∃ o',h'.get? b=some o'
 tups:∀ b xs,H b=some (.tup xs)→H' b=some (.tup xs)
 frzs:∀ b o u,H b=some (.frz o u)→H' b=some (.frz o u)
 tbls:∀ b ps,H b=some (.tbl ps)→∃ more,H' b=some (.tbl (ps++more))
section
variable {fs fs' ex ex':List Addr} {H H1 H2:Hp} {h h1 h2 h':Heap} {a x e:Addr} {o:HO}
theorem Un.any (u:Un fs ex H H1 h h1) {b:Addr} {ob:Obj} (q:h.get? b=some ob) (n:H b=none) (hx:b ∉ ex):∃ sl,h1.get? b=some { ob with slots:=sl }:=by
 by_cases hb:b∈fs
 · exact u.slot b ob q n hb hx
 · exact ⟨ob.slots,u.keep b ob q n hb hx⟩
theorem Un.trans (a:Un fs ex H H1 h h1) (b:Un fs ex H1 H2 h1 h2):Un fs ex H H2 h h2 where
 keep:=fun c ob q n hc hx=>b.keep c ob (a.keep c ob q n hc hx) (a.free c ob q n hx) hc hx
 slot:=fun c ob q n hc hx=>by
   obtain ⟨sl,e1⟩:=a.slot c ob q n hc hx;obtain ⟨sl',e2⟩:=b.slot c _ e1 (a.free c ob q n hx) hc hx;exact ⟨sl',e2⟩
 free:=fun c ob q n hx=>by
   obtain ⟨o',e1⟩:=a.there c ob q hx;exact b.free c o' e1 (a.free c ob q n hx) hx
 there:=fun c ob q hx=>by
   obtain ⟨o',e1⟩:=a.there c ob q hx;exact b.there c o' e1 hx
 tups:=fun c xs q=>b.tups c xs (a.tups c xs q)
 frzs:=fun c ob xs q=>b.frzs c ob xs (a.frzs c ob xs q)
 tbls:=fun c ps q=>by
   obtain ⟨m1,e1⟩:=a.tbls c ps q;obtain ⟨m2,e2⟩:=b.tbls c _ e1;exact ⟨m1++m2,by rw [e2,Array.append_assoc]⟩
theorem Un.kept (k:∀ b u,h.get? b=some u→h'.get? b=some u):Un fs ex H H h h' :=
 ⟨fun b ob q _ _ _=>k b ob q,fun b ob q _ _ _=>⟨ob.slots,k b ob q⟩,fun _ _ _ n _=>n,fun b ob q _=>⟨ob,k b ob q⟩,fun _ _ q=>q,fun _ _ _ q=>q,fun _ ps q=>⟨#[],by rw [q]; simp⟩⟩
theorem Un.refl:Un fs ex H H h h:=Un.kept fun _ _ q=>q
theorem Un.laid (k:∀ b u,h.get? b=some u→h'.get? b=some u) (hp:h.objs.size≤a) (hn:H a=none):Un fs ex H (upd H a o) h h' where
 keep:=fun b u q _ _ _=>k b u q
 slot:=fun b u q _ _ _=>⟨u.slots,k b u q⟩
 free:=fun b u q n _=>by rw [upd_ne (Nat.ne_of_lt (Nat.lt_of_lt_of_le (Heap.lt_size q) hp))]; exact n
 there:=fun b u q _=>⟨u,k b u q⟩
 tups:=fun b xs q=>by rw [upd_ne (ne_of_none q hn)]; exact q
 frzs:=fun b u xs q=>by rw [upd_ne (ne_of_none q hn)]; exact q
 tbls:=fun b ps q=>⟨#[],by rw [upd_ne (ne_of_none q hn),q]; simp⟩
theorem Un.write (mu:Mut (H x)) (he:e=x∨H e=some (.own x)) (k:∀ b u,b≠e→h.get? b=some u→h'.get? b=some u) (heo:∃ u,h'.get? e=some u):Un fs ex H (upd H x o) h h':=by
 have hx:∀ b,H b=none→b≠x:=fun b n z=>by subst z; rw [n] at mu; exact mu
 have hb:∀ b,H b=none→b≠e:=fun b n z=>by
   subst z;rcases he with r | r
   · exact hx b n r
   · rw [n] at r; cases r
 have hm:∀ b u,H b=some u→¬ Mut (some u)→b≠x:=fun b u q nm z=>by subst z; rw [q] at mu; exact nm mu
 refine ⟨fun b u q n _ _=>k b u (hb b n) q,fun b u q n _ _=>⟨u.slots,k b u (hb b n) q⟩,fun b u q n _=>by rw [upd_ne (hx b n)]; exact n,fun b u q _=>?_,
   fun b xs q=>by rw [upd_ne (hm b _ q fun z=>z)]; exact q,fun b u xs q=>by rw [upd_ne (hm b _ q fun z=>z)]; exact q,fun b ps q=>⟨#[],by rw [upd_ne (hm b _ q fun z=>z),q]; simp⟩⟩
 by_cases hbe:b=e
 · subst hbe; exact heo
 · exact ⟨u,k b u hbe q⟩
theorem Un.mono (u:Un fs ex H H1 h h1) (hs:∀ b∈fs,b∈fs') (hx:∀ b∈ex,b∈ex'):Un fs' ex' H H1 h h1 :=
 ⟨fun b ob q n hb he=>u.keep b ob q n (fun z=>hb (hs b z)) fun z=>he (hx b z),fun _ _ q n _ he=>u.any q n fun z=>he (hx _ z),fun b ob q n he=>u.free b ob q n fun z=>he (hx b z),fun b ob q he=>u.there b ob q fun z=>he (hx b z),u.tups,u.frzs,u.tbls⟩
end
noncomputable def trk (h:Heap) (H:Hp):List Addr:=(List.range h.objs.size).filter fun a=>(H a).isSome
noncomputable def hidT (h:Heap) (H:Hp):Heap:=PySem.W.hideAll h (trk h H)
theorem hidT_size (h:Heap) (H:Hp):(hidT h H).objs.size=h.objs.size:=PySem.W.hideAll_size _ _
theorem hidT_get {h:Heap} {H:Hp} {b:Addr} {o:Obj} (e:h.get? b=some o) (n:H b=none):(hidT h H).get? b=some o :=
 PySem.W.hideAll_get _ e fun hm=>by
   have q:(H b).isSome=true:=(List.mem_filter.mp hm).2;rw [n] at q; simp at q
theorem of_hidT {h:Heap} {H:Hp} {b:Addr} {o:Obj} (e:(hidT h H).get? b=some o):h.get? b=some o∧H b=none:=by
 have e':h.get? b=some o:=PySem.W.of_hideAll (trk h H) e;refine ⟨e',?_⟩
 cases q:H b with
 | none=>rfl
 | some x =>
   have hm:b∈trk h H:=List.mem_filter.mpr ⟨List.mem_range.mpr (Heap.lt_size e'),by simp [q]⟩;have z:(hidT h H).get? b=none:=PySem.W.hideAll_none (trk h H) hm;rw [z] at e; cases e
noncomputable def allNews (g h:Heap) (L:Addr):List (Addr × Obj):=(List.range h.objs.size).filterMap fun a=>if a=L∨(g.get? a).isSome=true then none else (h.get? a).map fun o=>(a,o)
noncomputable def rest (g h:Heap) (L d:Addr):List (Addr × Obj):=(allNews g h L).filter fun p=>decide (p.1≠d)
end L2
namespace L2
open PySem PySem.Spec PyProof.Rows
structure Mod (K:PySem.W.Frag) (mg:Str→Option Value) (base:Heap):Prop where
 kin:K.In base
 glob:base.Ns mainGlobals mg
 blt:∃ mb,base.Ns builtinsNs mb∧∀ x:Str,x ≠ "__name__" → mb x=bootBuiltins x
 nolimit:base.NoLimit
structure Cx where
 prog:Program
 w:World
 K:PySem.W.Frag
 mg:Str→Option Value
 base:Heap
 A:Around
 N:List Str
 s_0:Shared
 H_0:Hp
 env:Env
 outer:List Env
 stack:List Env
 ex:List Addr
 fn:Str→Bool
 calm:Bool
 pn:List (Addr × Obj)
 xe:Value→Shared→Prop
noncomputable def frs (l:List Env):List Addr:=l.filterMap (·.frame)
noncomputable abbrev Cx.fs (X:Cx):List Addr:=frs X.outer
noncomputable def Vis (sc:Scope) (x:Str):Prop:=sc.names.lookup x=some .local∨sc.names.lookup x=some .cell∨sc.names.lookup x=some .free
noncomputable def Loc (sc:Scope) (x:Str):Prop:=sc.names.lookup x=some .local∨sc.names.lookup x=some .cell
noncomputable def Look (env:Env) (h:Heap) (m:Str→Option Value) (x:Str) (u:Value):Prop :=
 (env.kindOf x=some .local∧m x=some u)∨((env.kindOf x=some .cell∨env.kindOf x=some .free)∧∃ c,env.cells.lookup x=some c∧h.IsCell c (some u))
structure Cx.Ok (X:Cx):Prop where
 mod:Mod X.K X.mg X.base
 kind:X.env.scope.kind = .function
 glob:X.env.globals=mainGlobals
 blt:X.env.builtins=builtinsNs
 above:X.s_0.heap.objs.size≤X.env.locals
 inj:∀ x y c,X.env.cells.lookup x=some c→X.env.cells.lookup y=some c→x=y
 has:∀ x,(X.env.kindOf x=some .cell∨X.env.kindOf x=some .free)→∃ c,X.env.cells.lookup x=some c
 cab:∀ x c,X.fn x=true→X.env.cells.lookup x=some c→X.s_0.heap.objs.size≤c
 hd:X.calm=true→X.A.handled=none
 frames:X.A.frames=some X.stack
 stk:X.stack=X.outer∨(X.stack=X.env :: X.outer∧X.env.frame=some X.env.locals)
 exf:∀ b∈X.ex,b≠X.env.locals∧∀ x c,X.env.cells.lookup x=some c→c≠b
 bs:∀ b o,X.base.get? b=some o→X.s_0.heap.get? b=some o∧X.H_0 b=none
 bsz:X.base.objs.size≤X.s_0.heap.objs.size
 noex:∀ b o,X.base.get? b=some o→b ∉ X.ex
 exfs:∀ b∈X.ex,b ∉ X.fs
 funs:X.s_0.heap.FunFrames X.base X.outer
 frf:∀ b∈X.fs,X.H_0 b=none
structure Inv (X:Cx) (pins:List (Addr × Obj)) (σ:List (Option V)) (H:Hp) (s:Shared):Prop where
 ok:X.Ok
 os:s.os=X.s_0.os
 bare:AllBare s.gens
 base:Un X.fs X.ex X.H_0 H X.s_0.heap s.heap
 loc:∃ m,s.heap.Ns X.env.locals m∧∀ (i:Nat) (x:Str) (v:V),X.N[i]? = some x→σ[i]? = some (some v)→Vis X.env.scope x→∃ u,RelV v u∧Look X.env s.heap m x u
 cell:∀ x c,X.env.cells.lookup x=some c→∃ v,s.heap.IsCell c v
 free:H X.env.locals=none
 freeC:∀ x c,X.env.cells.lookup x=some c→H c=none
 pin:∀ p∈X.pn++pins,s.heap.get? p.1=some p.2∧H p.1=none∧p.1≠X.env.locals∧p.1 ∉ X.fs∧∀ v,p.2.data≠.cell v
 hok:HOk X.prog X.w H s.heap
 len:σ.length=X.N.length
section
variable {X:Cx} {pins:List (Addr × Obj)} {σ:List (Option V)} {H H':Hp} {s:Shared} {h':Heap}
theorem Cx.Ok.nofr (ok:X.Ok) {b:Addr} {o:Obj} (e:X.base.get? b=some o):b ∉ X.fs:=fun hb=>by
 have:=(ok.funs.mem hb).1;rw [e] at this; cases this
theorem Inv.bs (I:Inv X pins σ H s):∀ b o,X.base.get? b=some o→s.heap.get? b=some o∧H b=none:=fun b o e =>
 ⟨I.base.keep b o (I.ok.bs b o e).1 (I.ok.bs b o e).2 (I.ok.nofr e) (I.ok.noex b o e),I.base.free b o (I.ok.bs b o e).1 (I.ok.bs b o e).2 (I.ok.noex b o e)⟩
theorem Inv.bk (I:Inv X pins σ H s):∀ b o,X.base.get? b=some o→s.heap.get? b=some o:=fun b o e=>(I.bs b o e).1
theorem Inv.mod (I:Inv X pins σ H s):Mod X.K X.mg X.base:=I.ok.mod
theorem Inv.kIn (I:Inv X pins σ H s):X.K.In s.heap:=I.ok.mod.kin.keeps I.bk
theorem Inv.nolimit (I:Inv X pins σ H s):s.heap.NoLimit:=I.ok.mod.nolimit.keeps I.bk
theorem Inv.lt (I:Inv X pins σ H s):X.env.locals < s.heap.objs.size:=let ⟨_,hn,_⟩:=I.loc; hn.lt
theorem Inv.sz (I:Inv X pins σ H s):X.s_0.heap.objs.size≤s.heap.objs.size:=Nat.le_trans I.ok.above (Nat.le_of_lt I.lt)
theorem Inv.nofs (I:Inv X pins σ H s) {a:Addr} (h:s.heap.objs.size≤a):a ∉ X.fs:=fun hb=>by
 obtain ⟨_,o,ho,_⟩:=I.ok.funs.mem hb;exact absurd (Nat.lt_of_lt_of_le (Heap.lt_size ho) (Nat.le_trans I.sz h)) (Nat.lt_irrefl _)
theorem Inv.cne (I:Inv X pins σ H s):∀ x c,X.env.cells.lookup x=some c→c≠X.env.locals:=fun x c e z=>by
 obtain ⟨v,o,ho,hd⟩:=I.cell x c e;obtain ⟨m,⟨o',es,ep,ho',hd',_⟩,_⟩:=I.loc;rw [z,ho'] at ho; cases ho; rw [hd'] at hd; cases hd
theorem Inv.funs (I:Inv X pins σ H s):s.heap.FunFrames X.base X.outer:=by
 have all:∀ (l:List Env),(∀ b∈frs l,b∈X.fs)→X.s_0.heap.FunFrames X.base l→s.heap.FunFrames X.base l:=by
   intro l
   induction l with
   | nil=>intro _ _; trivial
   | cons env r ih =>
     intro hs hl;obtain ⟨hk,⟨L,o,hf,hn,ho,hd⟩,hr⟩:=hl;have hL:L∈X.fs:=hs L (by unfold frs; rw [List.filterMap_cons,hf]; exact List.mem_cons_self);obtain ⟨sl,e⟩:=I.base.slot L o ho (I.ok.frf L hL) hL fun z=>I.ok.exfs L z hL;exact ⟨hk,⟨L,_,hf,hn,e,hd⟩,ih (fun b hb=>hs b (by unfold frs; rw [List.filterMap_cons,hf]; exact List.mem_cons_of_mem _ hb)) hr⟩
 exact all X.outer (fun _ hb=>hb) I.ok.funs
theorem Inv.stack (I:Inv X pins σ H s):s.heap.FunFrames X.base X.stack:=by
 rcases I.ok.stk with e | ⟨e,hf⟩
 · rw [e]; exact I.funs
 · rw [e];obtain ⟨m,hn,_⟩:=I.loc;refine .cons (by rw [I.ok.kind]; decide) hf hn ?_ I.funs;exact Heap.get?_none_of_le (Nat.le_trans I.ok.bsz I.ok.above)
theorem Inv.stkSub (I:Inv X pins σ H s):∀ b∈frs X.stack,b∈X.env.locals :: X.fs:=fun b hb=>by
 rcases I.ok.stk with e | ⟨e,hf⟩
 · rw [e] at hb; exact List.mem_cons_of_mem _ hb
 · rw [e] at hb;unfold frs at hb;rw [List.filterMap_cons,hf] at hb;exact hb
theorem Inv.stkFree (I:Inv X pins σ H s):∀ b∈frs X.stack,H b=none:=fun b hb=>by
 rcases List.mem_cons.mp (I.stkSub b hb) with e | hb
 · rw [e]; exact I.free
 · obtain ⟨_,o,ho,_⟩:=I.ok.funs.mem hb;exact I.base.free b o ho (I.ok.frf b hb) fun z=>I.ok.exfs b z hb
theorem Inv.step {g':Array GenState} {t':Nat} {d':Drawn} {ch:List Addr} (I:Inv X pins σ H s)
   (hch:∀ b∈ch,(b∈X.ex∨X.s_0.heap.objs.size≤b)∧b≠X.env.locals∧(∀ x c,X.env.cells.lookup x=some c→c≠b)∧∀ p∈X.pn++pins,p.1≠b)
   (keep:∀ b o,b≠X.env.locals→b ∉ X.fs→b ∉ ch→s.heap.get? b=some o→H b=none→h'.get? b=some o)
   (slot:∀ b o,b≠X.env.locals→b∈X.fs→b ∉ ch→s.heap.get? b=some o→H b=none→∃ sl,h'.get? b=some { o with slots:=sl }) (free:∀ b o,b ∉ ch→s.heap.get? b=some o→H b=none→H' b=none)
   (there:∀ b o,b ∉ ch→s.heap.get? b=some o→∃ o',h'.get? b=some o')
   (tups:∀ b xs,H b=some (.tup xs)→H' b=some (.tup xs)) (frzs:∀ b o u,H b=some (.frz o u)→H' b=some (.frz o u)) (tbls:∀ b ps,H b=some (.tbl ps)→∃ more,H' b=some (.tbl (ps++more)))
   (ns:∀ m,s.heap.Ns X.env.locals m→h'.Ns X.env.locals m) (hok:HOk X.prog X.w H' h') (hg:AllBare g') :
   Inv X pins σ H' { s with heap:=h',gens:=g',drawn:=d',toks:=t' }:=by
 have neL:∀ b o,X.s_0.heap.get? b=some o→b≠X.env.locals:=fun b o e=>Nat.ne_of_lt (Nat.lt_of_lt_of_le (Heap.lt_size e) I.ok.above)
 have neC:∀ b o,X.s_0.heap.get? b=some o→b ∉ X.ex→b ∉ ch:=fun b o e hx hb=>by
   rcases (hch b hb).1 with z | z
   · exact hx z
   · exact absurd (Nat.lt_of_lt_of_le (Heap.lt_size e) z) (Nat.lt_irrefl _)
 have cellK:∀ x c,X.env.cells.lookup x=some c→∀ v,s.heap.IsCell c v→h'.IsCell c v:=fun x c e v ⟨o,ho,hd⟩=>by
   have nch:c ∉ ch:=fun z=>(hch c z).2.2.1 x c e rfl;by_cases hc:c∈X.fs
   · obtain ⟨sl,q⟩:=slot c o (I.cne x c e) hc nch ho (I.freeC x c e);exact ⟨_,q,hd⟩
   · exact ⟨o,keep c o (I.cne x c e) hc nch ho (I.freeC x c e),hd⟩
 refine ⟨I.ok,I.os,hg,⟨fun b o e n hb hx=>?_,fun b o e n hb hx=>?_,fun b o e n hx=>?_,fun b o e hx=>?_,fun b xs e=>tups b xs (I.base.tups b xs e),fun b o xs e=>frzs b o xs (I.base.frzs b o xs e),fun b ps e=>?_⟩,?_,fun x c e=>?_,?_,fun x c e=>?_,fun p hp=>?_,hok,I.len⟩
 · exact keep b o (neL b o e) hb (neC b o e hx) (I.base.keep b o e n hb hx) (I.base.free b o e n hx)
 · obtain ⟨sl,e1⟩:=I.base.slot b o e n hb hx;obtain ⟨sl',e2⟩:=slot b _ (neL b o e) hb (neC b o e hx) e1 (I.base.free b o e n hx);exact ⟨sl',e2⟩
 · obtain ⟨o',e1⟩:=I.base.there b o e hx;exact free b o' (neC b o e hx) e1 (I.base.free b o e n hx)
 · obtain ⟨o',e1⟩:=I.base.there b o e hx;exact there b o' (neC b o e hx) e1
 · obtain ⟨m1,e1⟩:=I.base.tbls b ps e;obtain ⟨m2,e2⟩:=tbls b _ e1;exact ⟨m1++m2,by rw [e2,Array.append_assoc]⟩
 · obtain ⟨m,hn,hl⟩:=I.loc;refine ⟨m,ns m hn,fun i x v e1 e2 e3=>?_⟩;obtain ⟨u,r,l⟩:=hl i x v e1 e2 e3;refine ⟨u,r,?_⟩;rcases l with l | ⟨k,c,e,z⟩
   · exact .inl l
   · exact .inr ⟨k,c,e,cellK x c e _ z⟩
 · obtain ⟨v,z⟩:=I.cell x c e;exact ⟨v,cellK x c e v z⟩
 · obtain ⟨m,⟨o,_,_,ho,_⟩,_⟩:=I.loc;exact free _ o (fun z=>(hch _ z).2.1 rfl) ho I.free
 · obtain ⟨v,o,ho,hd⟩:=I.cell x c e;exact free c o (fun z=>(hch c z).2.2.1 x c e rfl) ho (I.freeC x c e)
 · obtain ⟨e,n,ne,nf,d⟩:=I.pin p hp;have nch:p.1 ∉ ch:=fun z=>(hch p.1 z).2.2.2 p hp rfl;exact ⟨keep p.1 p.2 ne nf nch e n,free p.1 p.2 nch e n,ne,nf,d⟩
theorem Inv.un {t':Nat} (I:Inv X pins σ H s) (u:Un X.fs [] H H' s.heap h') (hok:HOk X.prog X.w H' h'):Inv X pins σ H' { s with heap:=h',toks:=t' }:=by
 obtain ⟨m,⟨o,es,ep,ho,r⟩,_⟩:=id I.loc;obtain ⟨sl,hL⟩:=u.any ho I.free (by simp)
 exact I.step (g':=s.gens) (d':=s.drawn) (ch:=[]) (fun _ z=>nomatch z) (fun b o _ hb _ e n=>u.keep b o e n hb (by simp)) (fun b o _ hb _ e n=>u.slot b o e n hb (by simp)) (fun b o _ e n=>u.free b o e n (by simp)) (fun b o _ e=>u.there b o e (by simp)) u.tups u.frzs u.tbls (fun m' hm=>by
   obtain ⟨o',es',ep',ho',r'⟩:=hm;rw [ho] at ho'; cases ho';exact ⟨_,es',ep',hL,r'⟩) hok I.bare
theorem Inv.call {g':Array GenState} {t':Nat} {d':Drawn} {ch:List Addr} (I:Inv X pins σ H s) (u:Un (frs X.stack) ch H H' s.heap h') (hok:HOk X.prog X.w H' h') (hg:AllBare g')
   (hch:∀ b∈ch,(b∈X.ex∨X.s_0.heap.objs.size≤b)∧b≠X.env.locals∧(∀ x c,X.env.cells.lookup x=some c→c≠b)∧∀ p∈X.pn++pins,p.1≠b) :
   Inv X pins σ H' { s with heap:=h',gens:=g',drawn:=d',toks:=t' }:=by
 obtain ⟨m,⟨o,es,ep,ho,r⟩,_⟩:=id I.loc;obtain ⟨sl,hL⟩:=u.any ho I.free fun z=>(hch _ z).2.1 rfl
 exact I.step (ch:=ch) hch (fun b o hL hb hc e n=>u.keep b o e n (fun z=>(List.mem_cons.mp (I.stkSub b z)).elim hL hb) hc) (fun b o _ _ hc e n=>u.any e n hc) (fun b o hc e n=>u.free b o e n hc) (fun b o hc e=>u.there b o e hc) u.tups u.frzs u.tbls (fun m' hm=>by
   obtain ⟨o',es',ep',ho',r'⟩:=hm;rw [ho] at ho'; cases ho';exact ⟨_,es',ep',hL,r'⟩) hok hg
theorem Inv.turned {t':Nat} {it:Addr} (I:Inv X pins σ H s) (k:∀ b o,b≠it→s.heap.get? b=some o→h'.get? b=some o) (hn:H it=none) (hL:it≠X.env.locals)
   (h1:it∈X.ex∨X.s_0.heap.objs.size≤it) (h2:∀ x c,X.env.cells.lookup x=some c→c≠it) (h3:∀ p∈X.pn++pins,p.1≠it):Inv X pins σ H { s with heap:=h',toks:=t' }:=by
 have nit:∀ b u,H b=some u→b≠it:=fun b u e z=>by rw [z,hn] at e; cases e
 refine I.step (g':=s.gens) (d':=s.drawn) (ch:=[it]) (fun b hb=>?_) (fun b o _ _ hc e _=>k b o (fun z=>hc (by simp [z])) e) (fun b o _ _ hc e _=>⟨o.slots,k b o (fun z=>hc (by simp [z])) e⟩) (fun _ _ _ _ n=>n)
   (fun b o hc e=>⟨o,k b o (fun z=>hc (by simp [z])) e⟩) (fun _ _ e=>e) (fun _ _ _ e=>e) (fun b ps e=>⟨#[],by rw [e]; simp⟩) (fun m hm=>?_) (fun b u e=>?_) I.bare
 · have e:b=it:=by simpa using hb
   subst e;exact ⟨h1,hL,h2,h3⟩
 · obtain ⟨o,es,ep,ho,r⟩:=hm;exact ⟨o,es,ep,k _ o (Ne.symm hL) ho,r⟩
 · refine (I.hok b u e).stay (fun c v hc q=>k c v ?_ q) (fun _ q=>q) fun _ _ q=>q;rcases hc with z | z
   · rw [z]; exact nit b u e
   · exact nit c _ z
theorem Inv.tok (I:Inv X pins σ H s) (t:Nat):Inv X pins σ H { s with toks:=t }:=I.un (h':=s.heap) (t':=t) Un.refl I.hok
theorem Inv.kept {t':Nat} (I:Inv X pins σ H s) (k:∀ b u,s.heap.get? b=some u→h'.get? b=some u):Inv X pins σ H { s with heap:=h',toks:=t' }:=I.un (Un.kept k) (I.hok.kept k)
theorem Inv.laid {a:Addr} {o:HO} {t':Nat} (I:Inv X pins σ H s) (k:∀ b u,s.heap.get? b=some u→h'.get? b=some u) (hp:s.heap.objs.size≤a) (new:ObjOk X.prog X.w (upd H a o) h' a o) :
   Inv X pins σ (upd H a o) { s with heap:=h',toks:=t' }:=I.un (Un.laid k hp (I.hok.fresh hp)) (I.hok.laid k hp new)
theorem Inv.write {x e:Addr} {o:HO} {t':Nat} (I:Inv X pins σ H s) (mu:Mut (H x)) (he:e=x∨H e=some (.own x)) (k:∀ b u,b≠e→s.heap.get? b=some u→h'.get? b=some u) (heo:∃ u,h'.get? e=some u)
   (new:ObjOk X.prog X.w (upd H x o) h' x o):Inv X pins σ (upd H x o) { s with heap:=h',toks:=t' }:=I.un (Un.write mu he k heo) (I.hok.write mu he k heo new)
theorem Inv.weak {σ':List (Option V)} (I:Inv X pins σ H s) (hl:σ'.length=σ.length) (w:∀ (i:Nat) v,σ'[i]? = some (some v)→σ[i]? = some (some v)):Inv X pins σ' H s :=
 ⟨I.ok,I.os,I.bare,I.base,let ⟨m,hn,hl'⟩:=I.loc; ⟨m,hn,fun i x v e1 e2 e3=>hl' i x v e1 (w i v e2) e3⟩,I.cell,I.free,I.freeC,I.pin,I.hok,hl.trans I.len⟩
theorem Inv.pins_of {pins':List (Addr × Obj)} (I:Inv X pins σ H s) (h:∀ p∈pins',s.heap.get? p.1=some p.2∧H p.1=none∧p.1≠X.env.locals∧p.1 ∉ X.fs∧∀ v,p.2.data≠.cell v):Inv X pins' σ H s :=
 ⟨I.ok,I.os,I.bare,I.base,I.loc,I.cell,I.free,I.freeC,fun p hp=>(List.mem_append.mp hp).elim (fun z=>I.pin p (List.mem_append_left _ z)) (h p),I.hok,I.len⟩
theorem nodup_ix {N:List Str} (hN:N.Nodup) {i j:Nat} {x:Str} (a:N[i]? = some x) (b:N[j]? = some x):i=j:=by
 obtain ⟨h1,e1⟩:=List.getElem?_eq_some_iff.mp a;obtain ⟨h2,e2⟩:=List.getElem?_eq_some_iff.mp b;exact (List.getElem_inj hN).mp (e1.trans e2.symm)
theorem store_ok2 {M:Model} {A:Around} {E:Value→Shared→Prop} {i:Nat} {x:Str} {v:V} {u:Value} {Q:Unit→Shared→Prop} (I:Inv X pins σ H s) (hN:X.N.Nodup) (hi:X.N[i]? = some x) (hx:Loc X.env.scope x) (r:RelV v u)
   (h:∀ s',Inv X pins (σ.set i (some v)) H s'→(∃ a,Heap.SameBut a s.heap s'.heap∧(a=X.env.locals∨X.env.cells.lookup x=some a))→Q () s') (hf:X.fn x=true∨X.env.scope.names.lookup x=some .local:=by first | exact .inl rfl | exact .inr rfl | assumption):wpAny M A (storeName X.env x u) Q E s:=by
 obtain ⟨m,hn,hl⟩:=id I.loc;have hcls:(X.env.scope.kind == .class || (X.env.scope.kind == .module && X.env.locals != X.env.globals))=false:=by rw [I.ok.kind]; rfl
 have hiσ:i < σ.length:=by rw [I.len]; exact (List.getElem?_eq_some_iff.mp hi).1
 have cne:=I.cne
 have tracked:∀ {a:Addr} {h':Heap},(∃ o,s.heap.get? a=some o∧H a=none)→Heap.SameBut a s.heap h'→HOk X.prog X.w H h':=fun {a h'} ha hs b ob e=>by
   obtain ⟨_,_,hfree⟩:=ha;refine (I.hok b ob e).stay (fun c w' hc q=>(hs.2 c ?_).trans q) (fun _ q=>q) fun _ _ q=>q;rintro rfl;rcases hc with rfl | hc
   · rw [hfree] at e; cases e
   · rw [hfree] at hc; cases hc
 rcases hx with hk | hk
 · refine wpAny_storeName_local hk hn (fun h' hn' hs=>?_) hcls;obtain ⟨oL,_,_,hoL,_⟩:=id hn;refine h _ ⟨I.ok,I.os,I.bare,⟨fun b o e n hb hx=>?_,fun b o e n hb hx=>?_,I.base.free,fun b o e hx=>?_,I.base.tups,I.base.frzs,I.base.tbls⟩,⟨_,hn',fun j y v' e1 e2 e3=>?_⟩,fun y c e=>?_,I.free,I.freeC,fun p hp=>?_,tracked ⟨oL,hoL,I.free⟩ hs,by simpa using I.len⟩ ⟨_,hs,.inl rfl⟩
   · exact (hs.2 b (Nat.ne_of_lt (Nat.lt_of_lt_of_le (Heap.lt_size e) I.ok.above))).trans (I.base.keep b o e n hb hx)
   · obtain ⟨sl,e1⟩:=I.base.slot b o e n hb hx;exact ⟨sl,(hs.2 b (Nat.ne_of_lt (Nat.lt_of_lt_of_le (Heap.lt_size e) I.ok.above))).trans e1⟩
   · obtain ⟨o',e1⟩:=I.base.there b o e hx;exact ⟨o',(hs.2 b (Nat.ne_of_lt (Nat.lt_of_lt_of_le (Heap.lt_size e) I.ok.above))).trans e1⟩
   · by_cases hj:j=i
     · subst hj;rw [hi] at e1; cases e1;rw [List.getElem?_set_self hiσ] at e2;cases e2;exact ⟨u,r,.inl ⟨hk,by simp⟩⟩
     · rw [List.getElem?_set_ne (Ne.symm hj)] at e2;obtain ⟨u',r',q⟩:=hl j y v' e1 e2 e3;refine ⟨u',r',?_⟩;rcases q with ⟨k,e⟩ | ⟨k,c,e,z⟩
       · refine .inl ⟨k,?_⟩;have:y≠x:=fun e=>hj (nodup_ix hN e1 (e ▸ hi));simp [this,e]
       · exact .inr ⟨k,c,e,z.sameBut hs (cne y c e)⟩
   · obtain ⟨w',z⟩:=I.cell y c e;exact ⟨w',z.sameBut hs (cne y c e)⟩
   · obtain ⟨e,n,ne,nf,d⟩:=I.pin p hp;exact ⟨(hs.2 p.1 ne).trans e,n,ne,nf,d⟩
 · have hfn:X.fn x=true:=by
     rcases hf with z | z
     · exact z
     · rw [z] at hk; cases hk
   obtain ⟨c,hc⟩:=I.ok.has x (.inl hk);obtain ⟨w',z⟩:=I.cell x c hc;refine wpAny_storeName_cell I.ok.kind hk hc z (fun h' hc' hs=>?_);obtain ⟨oc,hoc,hocd⟩:=id z;refine h { s with heap:=h' } ⟨I.ok,I.os,I.bare,⟨fun b o e n hb hx=>?_,fun b o e n hb hx=>?_,I.base.free,fun b o e hx=>?_,I.base.tups,I.base.frzs,I.base.tbls⟩,⟨m,hn.sameBut hs (Ne.symm (cne x c hc)),fun j y v' e1 e2 e3=>?_⟩,fun y c' e=>?_,I.free,I.freeC,fun p hp=>?_,tracked ⟨oc,hoc,I.freeC x c hc⟩ hs,by simpa using I.len⟩ ⟨c,hs,.inr hc⟩
   · exact (hs.2 b (Nat.ne_of_lt (Nat.lt_of_lt_of_le (Heap.lt_size e) (I.ok.cab x c hfn hc)))).trans (I.base.keep b o e n hb hx)
   · obtain ⟨sl,e1⟩:=I.base.slot b o e n hb hx;exact ⟨sl,(hs.2 b (Nat.ne_of_lt (Nat.lt_of_lt_of_le (Heap.lt_size e) (I.ok.cab x c hfn hc)))).trans e1⟩
   · obtain ⟨o',e1⟩:=I.base.there b o e hx;exact ⟨o',(hs.2 b (Nat.ne_of_lt (Nat.lt_of_lt_of_le (Heap.lt_size e) (I.ok.cab x c hfn hc)))).trans e1⟩
   · by_cases hj:j=i
     · subst hj;rw [hi] at e1; cases e1;rw [List.getElem?_set_self hiσ] at e2;cases e2;exact ⟨u,r,.inr ⟨.inl hk,c,hc,hc'⟩⟩
     · rw [List.getElem?_set_ne (Ne.symm hj)] at e2;obtain ⟨u',r',q⟩:=hl j y v' e1 e2 e3;refine ⟨u',r',?_⟩;rcases q with q | ⟨k,c',e,z'⟩
       · exact .inl q
       · refine .inr ⟨k,c',e,z'.sameBut hs ?_⟩;rintro rfl;exact hj (nodup_ix hN e1 (I.ok.inj _ _ _ e hc ▸ hi))
   · by_cases hcc:c'=c
     · subst hcc; exact ⟨_,hc'⟩
     · obtain ⟨w2,z2⟩:=I.cell y c' e;exact ⟨w2,z2.sameBut hs hcc⟩
   · obtain ⟨e,n,ne,nf,d⟩:=I.pin p hp;refine ⟨(hs.2 p.1 ?_).trans e,n,ne,nf,d⟩;intro q;rw [q,hoc] at e;have q':oc=p.2:=Option.some.inj e;exact d w' (by rw [← q']; exact hocd)
theorem store_ok {M:Model} {A:Around} {E:Value→Shared→Prop} {i:Nat} {x:Str} {v:V} {u:Value} {Q:Unit→Shared→Prop} (I:Inv X pins σ H s) (hN:X.N.Nodup) (hi:X.N[i]? = some x) (hx:Loc X.env.scope x) (r:RelV v u)
   (h:∀ s',Inv X pins (σ.set i (some v)) H s'→Q () s') (hf:X.fn x=true∨X.env.scope.names.lookup x=some .local:=by first | exact .inl rfl | exact .inr rfl | assumption):wpAny M A (storeName X.env x u) Q E s :=
 store_ok2 I hN hi hx r (fun s' I' _=>h s' I') hf
theorem Inv.call' {s':Shared} {ch:List Addr} (I:Inv X pins σ H s) (ho:s'.os=s.os) (u:Un (frs X.stack) ch H H' s.heap s'.heap) (hok:HOk X.prog X.w H' s'.heap) (hg:AllBare s'.gens)
   (hch:∀ b∈ch,(b∈X.ex∨X.s_0.heap.objs.size≤b)∧b≠X.env.locals∧(∀ x c,X.env.cells.lookup x=some c→c≠b)∧∀ p∈X.pn++pins,p.1≠b):Inv X pins σ H' s':=by
 obtain ⟨h',g',d',t',o'⟩:=s';have e:o'=s.os:=ho;subst e;exact I.call (g':=g') (t':=t') (d':=d') u hok hg hch
end
noncomputable abbrev XK:=Value→Option Addr→Hp→Prop
noncomputable abbrev St:=List (Option V)
noncomputable abbrev VK:=V→Hp→Prop
noncomputable abbrev TE:=St→Hp→VK→Prop
noncomputable abbrev TT:=St→Hp→(Bool→Hp→Prop)→Prop
noncomputable abbrev TA:=St→Hp→(List V→Hp→Prop)→Prop
structure Ends where
 nx:St→Hp→Prop
 rt:VK
 bk:St→Hp→Prop:=fun _ _=>False
 ct:St→Hp→Prop:=fun _ _=>False
noncomputable abbrev TS:=Ends→St→Hp→Prop
noncomputable def EP (X:Cx) (pins:List (Addr × Obj)) (σ:St) (Q:VK) (u:Value) (s':Shared):Prop:=∃ v H',Inv X pins σ H' s'∧RelV v u∧Q v H'
noncomputable def TP (X:Cx) (pins:List (Addr × Obj)) (σ:St) (Q:Bool→Hp→Prop) (b:Bool) (s':Shared):Prop:=∃ H',Inv X pins σ H' s'∧Q b H'
noncomputable def AP (X:Cx) (pins:List (Addr × Obj)) (σ:St) (Q:List V→Hp→Prop) (us:List Value) (s':Shared):Prop:=∃ vs H',Inv X pins σ H' s'∧Vals vs us∧Q vs H'
noncomputable def SP (X:Cx) (pins:List (Addr × Obj)) (D:Ends) (f:Flow) (s':Shared):Prop :=
 match f with
 | .next=>∃ σ' H',Inv X pins σ' H' s'∧D.nx σ' H'
 | .brk=>∃ σ' H',Inv X pins σ' H' s'∧D.bk σ' H'
 | .cont=>∃ σ' H',Inv X pins σ' H' s'∧D.ct σ' H'
 | .ret u=>∃ v σ' H',Inv X pins σ' H' s'∧RelV v u∧D.rt v H'
noncomputable def PE (X:Cx) (e:Expr) (t:TE):Prop :=
 ∀ (pins:List (Addr × Obj)) (s:Shared) (σ:St) (H:Hp) (Q:VK),Inv X pins σ H s→t σ H Q→wpAny (model X.prog X.w) X.A (eval e X.env) (EP X pins σ Q) X.xe s
noncomputable def PT (X:Cx) (e:Expr) (t:TT):Prop :=
 ∀ (pins:List (Addr × Obj)) (s:Shared) (σ:St) (H:Hp) (Q:Bool→Hp→Prop),Inv X pins σ H s→t σ H Q→wpAny (model X.prog X.w) X.A (isTrue e X.env (eval e X.env)) (TP X pins σ Q) X.xe s
noncomputable def PW (X:Cx) (e:Expr) (t:TT):Prop :=
 ∀ (whole:Sem Value) (pins:List (Addr × Obj)) (s:Shared) (σ:St) (H:Hp) (Q:Bool→Hp→Prop),Inv X pins σ H s→t σ H Q→wpAny (model X.prog X.w) X.A (isTrue e X.env whole) (TP X pins σ Q) X.xe s
theorem PW.pt {X:Cx} {e:Expr} {t:TT} (h:PW X e t):PT X e t:=h _
noncomputable def PA (X:Cx) (es:List Expr) (t:TA):Prop :=
 ∀ (pos:Pos) (pins:List (Addr × Obj)) (s:Shared) (σ:St) (H:Hp) (Q:List V→Hp→Prop),Inv X pins σ H s→t σ H Q→wpAny (model X.prog X.w) X.A (spliced (backTo pos (starEach es X.env))) (AP X pins σ Q) X.xe s
noncomputable def PS (X:Cx) (st:Stmt) (t:TS):Prop :=
 ∀ (pins:List (Addr × Obj)) (s:Shared) (σ:St) (H:Hp) (D:Ends),Inv X pins σ H s→t D σ H→wpAny (model X.prog X.w) X.A (exec st X.env) (SP X pins D) X.xe s
noncomputable def PSs (X:Cx) (st:List Stmt) (t:TS):Prop :=
 ∀ (pins:List (Addr × Obj)) (s:Shared) (σ:St) (H:Hp) (D:Ends),Inv X pins σ H s→t D σ H→wpAny (model X.prog X.w) X.A (execs st X.env) (SP X pins D) X.xe s
theorem thn {α:Type} {t:Sem α} {Q Q':α→Shared→Prop} {M:Model} {A:Around} {E:Value→Shared→Prop} {s:Shared} (h:wpAny M A t Q E s) (hQ:∀ a s,Q a s→Q' a s):wpAny M A t Q' E s:=wpAny_mono h hQ fun _ _ x=>x
end L2
namespace L2
open PySem PySem.Spec PyProof.Rows
section
variable {X:Cx}
noncomputable def tVar (i:Nat):TE:=fun σ H Q=>∃ v,σ[i]? = some (some v)∧Q v H
noncomputable def tC (v:V):TE:=fun _ H Q=>Q v H
theorem pe_var {i:Nat} {x:Str} {pos:Pos} (hN:X.N[i]? = some x) (hv:Vis X.env.scope x) (hd:(x == ("__debug__" : Str))=false:=by decide) (hcd:(x == ("__classdict__" : Str))=false:=by decide):PE X (.Name x pos) (tVar i):=by
 intro pins s σ H Q I h;obtain ⟨v,e,h⟩:=h;obtain ⟨m,hn,hl⟩:=I.loc;obtain ⟨u,r,l⟩:=hl i x v hN e hv;have fin:EP X pins σ Q u s:=⟨v,H,I,r,h⟩;rcases l with ⟨hk,hm⟩ | ⟨hk,c,hc,hcell⟩
 · exact wpAny_Name (wpAny_loadName_local I.ok.kind hk hn hm fin) hd
 · rcases hk with hk | hk
   · exact wpAny_Name (wpAny_loadName_cell I.ok.kind hk hc hcell fin) hd
   · exact wpAny_Name (wpAny_loadName_free I.ok.kind hk hc hcell fin hcd) hd
theorem pe_int {i j pos}:PE X (.Constant (.int i) j pos) (tC (.int i)):=fun _ _ _ H _ I h=>wpAny_Constant_int ⟨.int i,H,I.tok _,⟨_,rfl⟩,h⟩
theorem pe_non {j pos}:PE X (.Constant .none j pos) (tC .non):=fun _ _ _ H _ I h=>Constant_none ⟨.non,H,I,rfl,h⟩
theorem pe_str {x j pos}:PE X (.Constant (.str x) j pos) (tC (.str x)):=fun _ _ _ H _ I h=>Calls.Constant_str ⟨.str x,H,I.tok _,⟨_,rfl⟩,h⟩
noncomputable def Gl (X:Cx) (x:Str):Prop:=X.env.kindOf x=some .globalImplicit
theorem ld_glob {E:Value→Shared→Prop} {pins:List (Addr × Obj)} {s:Shared} {σ:St} {H:Hp} {x:Str} {u:Value} {pos:Pos} {Q:Value→Shared→Prop} (I:Inv X pins σ H s) (hg:Gl X x) (hm:X.mg x=some u) (h:Q u s)
   (hd:(x == ("__debug__" : Str))=false:=by decide):wpAny (model X.prog X.w) X.A (eval (.Name x pos) X.env) Q E s :=
 Calls.Name_function_global I.ok.kind hg (Calls.loadGlobal_global (by rw [I.ok.glob]; exact I.mod.glob.keeps I.bk) hm h) hd
theorem ld_blt {E:Value→Shared→Prop} {pins:List (Addr × Obj)} {s:Shared} {σ:St} {H:Hp} {x:Str} {u:Value} {pos:Pos} {Q:Value→Shared→Prop} (I:Inv X pins σ H s) (hg:Gl X x) (hm:X.mg x=none) (hv:bootBuiltins x=some u) (h:Q u s)
   (hn:x ≠ "__name__" := by decide) (hd:(x == ("__debug__" : Str))=false:=by decide):wpAny (model X.prog X.w) X.A (eval (.Name x pos) X.env) Q E s:=by
 obtain ⟨mb,h1,h2⟩:=I.mod.blt;exact Calls.Name_function_global I.ok.kind hg (Calls.loadGlobal_builtin (by rw [I.ok.glob]; exact I.mod.glob.keeps I.bk) hm (by rw [I.ok.blt]; exact h1.keeps I.bk) ((h2 x hn).trans hv) h) hd
theorem pe_glob {x:Str} {v:V} {u:Value} {pos:Pos} (hg:Gl X x) (hm:X.mg x=some u) (r:RelV v u) (hd:(x == ("__debug__" : Str))=false:=by decide):PE X (.Name x pos) (tC v) :=
 fun _ _ _ H _ I h=>ld_glob I hg hm ⟨v,H,I,r,h⟩ hd
variable {a b:Expr} {ta tb:TE} {pos:Pos}
noncomputable def PC (X:Cx) (op:CmpOp) (a b:Expr) (t:TE):Prop :=
 ∀ (pins:List (Addr × Obj)) (s:Shared) (σ:St) (H:Hp) (Q:VK),Inv X pins σ H s→t σ H Q →
   wpAny (model X.prog X.w) X.A (eval a X.env) (fun v s₁=>wpAny (model X.prog X.w) X.A (eval b X.env) (fun u s₂=>wpAny (model X.prog X.w) X.A (compareOp op v u) (EP X pins σ Q) X.xe s₂) X.xe s₁) X.xe s
theorem nobehind (b:Expr) {op:CmpOp} (h:op≠.In) (h2:op≠.NotIn):behindInMarks op b=false:=by
 have e1:(op == CmpOp.In)=false:=by cases op <;> first | rfl | exact absurd rfl h
 have e2:(op == CmpOp.NotIn)=false:=by cases op <;> first | rfl | exact absurd rfl h2
 cases b <;> simp [behindInMarks,e1,e2]
noncomputable def tIsN (ta:TE):TE:=fun σ H Q=>ta σ H fun x H1=>Q (.bl (decide (x = .non))) H1
theorem RelV.none_iff {x:V} {v:Value} (r:RelV x v):(v == Value.none)=decide (x = .non):=by
 cases x with
 | non=>cases r; rfl
 | bl _=>cases r; rfl
 | int _=>obtain ⟨t,rfl⟩:=r; rfl
 | str _=>obtain ⟨t,rfl⟩:=r; rfl
 | byt _=>obtain ⟨t,rfl⟩:=r; rfl
 | flt _=>obtain ⟨t,rfl⟩:=r; rfl
 | ref _=>cases r; rfl
 | ty _=>cases r; rfl
theorem pc_isN {j pos'} (ha:PE X a ta):PC X .Is a (.Constant .none j pos') (tIsN ta):=by
 intro pins s σ H Q I h;refine thn (ha pins s σ H _ I h) fun v s1 ⟨x,H1,I1,r1,q1⟩=>?_;exact Constant_none (is_none_gen ⟨.bl _,H1,I1,by rw [r1.none_iff]; rfl,q1⟩)
noncomputable def tB (t:TE):TT:=fun σ H Q=>t σ H fun x H1=>∃ c,x = .bl c∧Q c H1
theorem pt_cmp {op:CmpOp} {t:TE} (h:PC X op a b t) (h1:behindInMarks op b=false:=by first | exact nobehind _ (by decide) (by decide) | rfl):PT X (.Compare a [op] [b] pos) (tB t):=by
 intro pins s σ H Q I hw;refine wpAny_isTrue_Compare1 (thn (h pins s σ H _ I hw) fun v s1 h1=>thn h1 fun u s2 h2=>thn h2 fun c s3 ⟨x,H1,I1,r1,q1⟩=>?_) h1;obtain ⟨d,rfl,q⟩:=q1;cases r1;exact wpAny_truthy_bool ⟨H1,I1,q⟩
theorem pt_val {e:Expr} {t:TE} (h:PE X e t) (he:∀ whole,isTrue e X.env whole=(do let v ← whole; standAt e.pos; holding [v] (truthy v)):=by intro _; rfl):PT X e (tB t):=by
 intro pins s σ H Q I hw;refine isTrue_plain (thn (h pins s σ H _ I hw) fun v s1 ⟨x,H1,I1,r1,q1⟩=>?_) (he _);obtain ⟨d,rfl,q⟩:=q1;cases r1;exact wpAny_truthy_bool ⟨H1,I1,q⟩
variable {tA tB':TT} {rest:List Expr}
noncomputable def tAnd (t u:TT):TT:=fun σ H Q=>t σ H fun c H1=>if c=true then u σ H1 Q else Q false H1
noncomputable def tOr (t u:TT):TT:=fun σ H Q=>t σ H fun c H1=>if c=true then Q true H1 else u σ H1 Q
noncomputable def tNot (t:TT):TT:=fun σ H Q=>t σ H fun c H1=>Q (!c) H1
theorem pw_and1 (ha:PT X a tA):PW X (.BoolOp .And [a] pos) tA:=by
 intro wh pins s σ H Q I h;refine isTrue_and (thn (ha pins s σ H Q I h) fun c s1 e=>?_)
 cases c with
 | true=>exact isTrue_and_nil e
 | false=>exact e
theorem pw_or1 (ha:PT X a tA):PW X (.BoolOp .Or [a] pos) tA:=by
 intro wh pins s σ H Q I h;refine isTrue_or (thn (ha pins s σ H Q I h) fun c s1 e=>?_)
 cases c with
 | false=>exact isTrue_or_nil e
 | true=>exact e
theorem pw_and (ha:PT X a tA) (hb:PW X (.BoolOp .And (b :: rest) pos) tB'):PW X (.BoolOp .And (a :: b :: rest) pos) (tAnd tA tB'):=by
 intro wh pins s σ H Q I h;refine isTrue_and (thn (ha pins s σ H _ I h) fun c s1 ⟨H1,I1,q1⟩=>?_)
 cases c with
 | true=>exact hb wh pins s1 σ H1 Q I1 q1
 | false=>exact ⟨H1,I1,q1⟩
theorem pw_or (ha:PT X a tA) (hb:PW X (.BoolOp .Or (b :: rest) pos) tB'):PW X (.BoolOp .Or (a :: b :: rest) pos) (tOr tA tB'):=by
 intro wh pins s σ H Q I h;refine isTrue_or (thn (ha pins s σ H _ I h) fun c s1 ⟨H1,I1,q1⟩=>?_)
 cases c with
 | true=>exact ⟨H1,I1,q1⟩
 | false=>exact hb wh pins s1 σ H1 Q I1 q1
theorem pt_not (ha:PT X a tA):PT X (.UnaryOp .Not a pos) (tNot tA):=by
 intro pins s σ H Q I h;exact isTrue_not (ha pins s σ H (fun c H1=>Q (!c) H1) I h)
noncomputable def tAndV (ta tb:TE):TE:=fun σ H Q=>ta σ H fun x H1=>∃ c,x = .bl c∧if c=true then tb σ H1 Q else Q (.bl false) H1
noncomputable def tOrV (ta tb:TE):TE:=fun σ H Q=>ta σ H fun x H1=>∃ c,x = .bl c∧if c=true then Q (.bl true) H1 else tb σ H1 Q
noncomputable def tNotV (ta:TE):TE:=fun σ H Q=>ta σ H fun x H1=>∃ c,x = .bl c∧Q (.bl (!c)) H1
theorem pe_one {op} {t:TE} (h:PE X a t):PE X (.BoolOp op [a] pos) t:=fun pins s σ H Q I hw=>BoolOp_one (h pins s σ H Q I hw)
theorem pe_and (ha:PE X a ta) (hb:PE X (.BoolOp .And (b :: rest) pos) tb):PE X (.BoolOp .And (a :: b :: rest) pos) (tAndV ta tb):=by
 intro pins s σ H Q I h;refine BoolOp_and (thn (ha pins s σ H _ I h) fun v s1 ⟨x,H1,I1,r1,q1⟩=>?_);obtain ⟨c,rfl,q1⟩:=q1;cases r1;refine wpAny_truthy_bool ?_
 cases c with
 | true=>exact hb pins s1 σ H1 Q I1 q1
 | false=>exact ⟨.bl false,H1,I1,rfl,q1⟩
noncomputable def tIf (t:TT) (ta tb:TE):TE:=fun σ H Q=>t σ H fun c H1=>if c=true then ta σ H1 Q else tb σ H1 Q
end
end L2
namespace L2
open PySem PySem.Spec PyProof.Rows
noncomputable def SqL (K:PySem.W.Frag) (H:Hp) (a:Addr) (xs:List V):Prop :=
 Rd H a (.lst xs) ∨
   ∃ (o:Obj) (its:Array Value) (n:Nat),K.lookup a=some o∧o.cls = .type "list" ∧ o.dict=none∧o.data = .seq its n∧its.size≤sizeLine∧Vals xs its.toList
noncomputable def SqT (K:PySem.W.Frag) (H:Hp) (a:Addr) (xs:List V):Prop :=
 Rd H a (.tup xs) ∨
   ∃ (o:Obj) (its:Array Value) (n:Nat),K.lookup a=some o∧o.cls = .type "tuple" ∧ o.data = .seq its n∧its.size≤sizeLine∧Vals xs its.toList
noncomputable def absV:Value→Option V
 | .none=>some .non
 | .bool b=>some (.bl b)
 | .int i _=>some (.int i)
 | .str x _=>some (.str x)
 | .bytes b _=>some (.byt b)
 | .float b _=>some (.flt b)
 | .ref a=>some (.ref a)
 | .type n=>some (.ty n)
 | _=>none
theorem RelV.abs {x:V} {u:Value} (r:RelV x u):absV u=some x:=by
 cases x with
 | non=>cases r; rfl
 | bl _=>cases r; rfl
 | int _=>obtain ⟨t,rfl⟩:=r; rfl
 | str _=>obtain ⟨t,rfl⟩:=r; rfl
 | byt _=>obtain ⟨t,rfl⟩:=r; rfl
 | flt _=>obtain ⟨t,rfl⟩:=r; rfl
 | ref _=>cases r; rfl
 | ty _=>cases r; rfl
theorem RelV.inj {x y:V} {u:Value} (r:RelV x u) (q:RelV y u):x=y:=Option.some.inj (r.abs.symm.trans q.abs)
theorem Vals.inj:∀ {xs ys:List V} {us:List Value},Vals xs us→Vals ys us→xs=ys
 | _,_,_,.nil,.nil=>rfl
 | _,_,_,.cons r t,.cons r' t'=>by rw [r.inj r',Vals.inj t t']
section
variable {X:Cx} {pins:List (Addr × Obj)} {σ:St} {H:Hp} {s:Shared} {a:Addr} {xs ys:List V}
theorem SqL.of {K:PySem.W.Frag} (h:H a=some (.lst xs)):SqL K H a xs:=.inl (.inl h)
theorem SqT.of {K:PySem.W.Frag} (h:H a=some (.tup xs)):SqT K H a xs:=.inl (.inl h)
theorem Inv.list (I:Inv X pins σ H s) (h:SqL X.K H a xs):∃ its:List Value,Vals xs its∧PlainL s.heap a its.toArray∧xs.length≤sizeLine:=by
 rcases h with h | ⟨o,its,n,hk,hc,hd,hs,hz,r⟩
 · obtain ⟨z,its,n,r,e⟩:=h.ok I.hok;exact ⟨its,r,⟨_,n,e,rfl,rfl,rfl⟩,z⟩
 · refine ⟨its.toList,r,⟨o,n,I.kIn a o hk,hc,hd,by simpa using hs⟩,?_⟩;have e:=r.length;simp only [Array.length_toList] at e;omega
theorem Inv.tuple (I:Inv X pins σ H s) (h:SqT X.K H a xs):∃ its:List Value,Vals xs its∧IsTup s.heap a its.toArray∧xs.length≤sizeLine:=by
 rcases h with h | ⟨o,its,n,hk,hc,hs,hz,r⟩
 · obtain ⟨z,its,r,p⟩:=h.ok I.hok;exact ⟨its,r,p,z⟩
 · refine ⟨its.toList,r,⟨o,I.kIn a o hk,hc,n,by simpa using hs⟩,?_⟩;have e:=r.length;simp only [Array.length_toList] at e;omega
theorem Inv.list_inj (I:Inv X pins σ H s) (h:SqL X.K H a xs) (h':SqL X.K H a ys):xs=ys:=by
 obtain ⟨its,r,⟨o,n,e,_,_,d⟩,_⟩:=I.list h;obtain ⟨its',r',⟨o',n',e',_,_,d'⟩,_⟩:=I.list h';rw [e] at e'; cases e';rw [d] at d';injection d' with d1 _;have:its=its':=by simpa using congrArg Array.toList d1
 subst this;exact r.inj r'
end
noncomputable abbrev Cx.wish (X:Cx) (E:Value→Shared→Prop):Cx:={ X with xe:=E }
noncomputable abbrev Cx.nox (X:Cx):Cx:=X.wish fun _ _=>False
theorem Cx.Ok.wish {X:Cx} (ok:X.Ok) (E:Value→Shared→Prop):(X.wish E).Ok :=
 ⟨ok.mod,ok.kind,ok.glob,ok.blt,ok.above,ok.inj,ok.has,ok.cab,ok.hd,ok.frames,ok.stk,ok.exf,ok.bs,ok.bsz,ok.noex,ok.exfs,ok.funs,ok.frf⟩
theorem Cx.Ok.unwish {X:Cx} {E:Value→Shared→Prop} (ok:(X.wish E).Ok):X.Ok :=
 ⟨ok.mod,ok.kind,ok.glob,ok.blt,ok.above,ok.inj,ok.has,ok.cab,ok.hd,ok.frames,ok.stk,ok.exf,ok.bs,ok.bsz,ok.noex,ok.exfs,ok.funs,ok.frf⟩
section
variable {X:Cx} {pins:List (Addr × Obj)} {σ:St} {H:Hp} {s:Shared} {E:Value→Shared→Prop}
theorem Inv.wish (I:Inv X pins σ H s) (E:Value→Shared→Prop):Inv (X.wish E) pins σ H s:=⟨I.ok.wish E,I.os,I.bare,I.base,I.loc,I.cell,I.free,I.freeC,I.pin,I.hok,I.len⟩
theorem Inv.unwish (I:Inv (X.wish E) pins σ H s):Inv X pins σ H s:=⟨I.ok.unwish,I.os,I.bare,I.base,I.loc,I.cell,I.free,I.freeC,I.pin,I.hok,I.len⟩
theorem SP.unwish {D:Ends} {f:Flow} {s':Shared} (h:SP (X.wish E) pins D f s'):SP X pins D f s':=by
 cases f with
 | next=>obtain ⟨σ',H',I,q⟩:=h; exact ⟨σ',H',I.unwish,q⟩
 | brk=>obtain ⟨σ',H',I,q⟩:=h; exact ⟨σ',H',I.unwish,q⟩
 | cont=>obtain ⟨σ',H',I,q⟩:=h; exact ⟨σ',H',I.unwish,q⟩
 | ret u=>obtain ⟨v,σ',H',I,r,q⟩:=h; exact ⟨v,σ',H',I.unwish,r,q⟩
theorem PE.nox {e:Expr} {t:TE} (h:PE X.nox e t):PE X e t:=fun pins s σ H Q I hw =>
 wpAny_mono (h pins s σ H Q (I.wish _) hw) (fun _ _ ⟨v,H',I',r,q⟩=>⟨v,H',I'.unwish,r,q⟩) fun _ _ z=>False.elim z
theorem PT.nox {e:Expr} {t:TT} (h:PT X.nox e t):PT X e t:=fun pins s σ H Q I hw =>
 wpAny_mono (h pins s σ H Q (I.wish _) hw) (fun _ _ ⟨H',I',q⟩=>⟨H',I'.unwish,q⟩) fun _ _ z=>False.elim z
theorem PSs.nox {st:List Stmt} {t:TS} (h:PSs X.nox st t):PSs X st t:=fun pins s σ H D I hw =>
 wpAny_mono (h pins s σ H D (I.wish _) hw) (fun _ _ q=>q.unwish) fun _ _ z=>False.elim z
end
section
variable {X:Cx} {st:Stmt} {rest:List Stmt} {t u:TS} {e:Expr} {te:TE} {pos:Pos}
noncomputable def tNext:TS:=fun D σ H=>D.nx σ H
noncomputable def tSeq (t u:TS):TS:=fun D σ H=>t { D with nx:=u D } σ H
theorem pss_nil:PSs X [] tNext:=fun _ _ σ H _ I h=>wpAny_execs_nil ⟨σ,H,I,h⟩
theorem pss_cons (h1:PS X st t) (h2:PSs X rest u):PSs X (st :: rest) (tSeq t u):=by
 intro pins s σ H D I h;refine wpAny_execs_cons (thn (h1 pins s σ H { D with nx:=u D } I h) fun f s1 q=>?_)
 cases f with
 | next =>
   obtain ⟨σ',H',I',q⟩:=q
   exact h2 pins s1 σ' H' D I' q
 | ret v=>exact q
 | brk=>exact q
 | cont=>exact q
theorem pss_one (h1:PS X st t):PSs X [st] t:=by
 intro pins s σ H D I h;refine wpAny_execs_cons (thn (h1 pins s σ H D I h) fun f s1 q=>?_)
 cases f with
 | next=>exact wpAny_execs_nil q
 | ret v=>exact q
 | brk=>exact q
 | cont=>exact q
theorem Inv.quiet {pins:List (Addr × Obj)} {σ:St} {H:Hp} {s:Shared} (I:Inv X pins σ H s):interactive X.env=false:=by simp [interactive,I.ok.kind]
noncomputable def tDrop (te:TE):TS:=fun D σ H=>te σ H fun _ H1=>D.nx σ H1
theorem ps_expr (he:PE X e te) (hs:swapsWith e none pos.line X.env=pure false:=by rfl):PS X (.Expr e pos) (tDrop te):=by
 intro pins s σ H D I h;exact wpAny_Expr_any (thn (he pins s σ H _ I h) fun v s1 ⟨x,H1,I1,r1,q1⟩=>⟨σ,H1,I1,q1⟩) I.quiet hs
noncomputable def tRet (te:TE):TS:=fun D σ H=>te σ H D.rt
theorem ps_ret (he:PE X e te):PS X (.Return (some e) pos) (tRet te):=by
 intro pins s σ H D I h;exact wpAny_Return_some (thn (he pins s σ H _ I h) fun v s1 ⟨x,H1,I1,r1,q1⟩=>⟨x,σ,H1,I1,r1,q1⟩)
noncomputable def tRetN:TS:=fun D _ H=>D.rt .non H
noncomputable def tIfS (c:TT) (t u:TS):TS:=fun D σ H=>c σ H fun b H1=>if b=true then t D σ H1 else u D σ H1
theorem ps_if {c:Expr} {a b:List Stmt} {tc:TT} (hc:PT X c tc) (ha:PSs X a t) (hb:PSs X b u):PS X (.If c a b pos) (tIfS tc t u):=by
 intro pins s σ H D I h;refine wpAny_If (thn (hc pins s σ H _ I h) fun d s1 ⟨H1,I1,q1⟩=>?_)
 cases d with
 | true=>exact ha pins s1 σ H1 D I1 q1
 | false=>exact hb pins s1 σ H1 D I1 q1
end
noncomputable abbrev TG:=V→St→Hp→(St→Hp→Prop)→Prop
noncomputable abbrev TGs:=List V→St→Hp→(St→Hp→Prop)→Prop
noncomputable def PG (X:Cx) (target:Expr) (t:TG):Prop :=
 ∀ (pins:List (Addr × Obj)) (s:Shared) (σ:St) (H:Hp) (v:V) (u:Value) (Q:St→Hp→Prop),Inv X pins σ H s→RelV v u→t v σ H Q →
   wpAny (model X.prog X.w) X.A (assign target X.env u) (fun _ s'=>∃ σ' H',Inv X pins σ' H' s'∧Q σ' H') X.xe s
noncomputable def PGs (X:Cx) (ts:List Expr) (t:TGs):Prop :=
 ∀ (pins:List (Addr × Obj)) (s:Shared) (σ:St) (H:Hp) (vs:List V) (us:List Value) (Q:St→Hp→Prop),Inv X pins σ H s→Vals vs us→t vs σ H Q →
   wpAny (model X.prog X.w) X.A (assignInOrder ((assignEach ts X.env).map (·.2)) us) (fun _ s'=>∃ σ' H',Inv X pins σ' H' s'∧Q σ' H') X.xe s
noncomputable abbrev TSet:=V→V→V→Hp→(Hp→Prop)→Prop
noncomputable def PSet (X:Cx) (t:TSet):Prop :=
 ∀ (pins:List (Addr × Obj)) (s:Shared) (σ:St) (H:Hp) (o i v:V) (ov iv u:Value) (Q:Hp→Prop),Inv X pins σ H s→RelV o ov→RelV i iv→RelV v u→t o i v H Q →
   wpAny (model X.prog X.w) X.A (setItem ov iv u) (fun _ s'=>∃ H',Inv X pins σ H' s'∧Q H') X.xe s
noncomputable abbrev TIp:=V→V→Hp→VK→Prop
noncomputable def PIp (X:Cx) (op:Operator) (t:TIp):Prop :=
 ∀ (pins:List (Addr × Obj)) (s:Shared) (σ:St) (H:Hp) (x y:V) (v u:Value) (Q:VK),Inv X pins σ H s→RelV x v→RelV y u→t x y H Q →
   wpAny (model X.prog X.w) X.A (inplaceOp op v u) (EP X pins σ Q) X.xe s
section
variable {X:Cx} {pos:Pos}
noncomputable def gName (i:Nat):TG:=fun v σ H Q=>Q (σ.set i (some v)) H
theorem pg_name {i:Nat} {x:Str} (hN:X.N.Nodup) (hi:X.N[i]? = some x) (hx:Loc X.env.scope x) (hf:X.fn x=true∨X.env.scope.names.lookup x=some .local:=by first | exact .inl rfl | exact .inr rfl | assumption):PG X (.Name x pos) (gName i):=by
 intro pins s σ H v u Q I r h;exact wpAny_assign_Name (store_ok I hN hi hx r (fun s' I'=>⟨_,H,I',h⟩) hf)
noncomputable def gNil:TGs:=fun vs σ H Q=>vs=[]∧Q σ H
noncomputable def gCons (t:TG) (u:TGs):TGs:=fun vs σ H Q=>∃ v r,vs=v :: r∧t v σ H fun σ' H'=>u r σ' H' Q
theorem pgs_nil:PGs X [] gNil:=by
 intro pins s σ H vs us Q I r h;obtain ⟨e,h⟩:=h;subst e;cases r;exact assignInOrder_nil ⟨σ,H,I,h⟩
theorem pgs_cons {e:Expr} {es:List Expr} {t:TG} {u:TGs} (h1:PG X e t) (h2:PGs X es u)
   (hs:(assignEach (e :: es) X.env).map (·.2)=assign e X.env :: (assignEach es X.env).map (·.2):=by rfl):PGs X (e :: es) (gCons t u):=by
 intro pins s σ H vs us Q I r h;obtain ⟨v,vr,e1,h⟩:=h;subst e1
 cases r with
 | cons r rr =>
   rw [hs];refine assignInOrder_cons (thn (h1 pins s σ H _ _ _ I r h) fun _ s1 ⟨σ1,H1,I1,q1⟩=>?_);exact h2 pins s1 σ1 H1 _ _ Q I1 rr q1
noncomputable def gTup (K:PySem.W.Frag) (n:Nat) (t:TGs):TG:=fun v σ H Q=>∃ a xs,v = .ref a∧SqT K H a xs∧xs.length=n∧t xs σ H Q
theorem pg_tup {es:List Expr} {k:Nat} {t:TGs} {n:Nat} (hc:X.calm=true) (h:PGs X es t)
   (hn:(assignEach es X.env).length=n:=by rfl) (hst:(assignEach es X.env).findIdx? (·.1)=none:=by rfl):PG X (.Tuple es k pos) (gTup X.K n t):=by
 intro pins s σ H v u Q I r hw;obtain ⟨a,xs,e1,hq,hl,hw⟩:=hw;subst e1;cases r;obtain ⟨its,rv,ht,hz⟩:=I.tuple hq;refine assign_Tuple_tuple (I.ok.hd hc) ht (by simp [hn,← hl,rv.length]) hst fun h' hx=>?_;have I1:Inv X pins σ H { s with heap:=h' }:=I.kept (t':=s.toks) fun b o e=>hx b o (Nat.ne_of_lt (Heap.lt_size e)) e;exact h pins _ σ H xs _ Q I1 (by simpa using rv) hw
noncomputable def gSub (to ti:TE) (t:TSet):TG:=fun v σ H Q=>to σ H fun o H1=>ti σ H1 fun i H2=>t o i v H2 fun H3=>Q σ H3
theorem pg_sub {o i:Expr} {to ti:TE} {t:TSet} (ho:PE X o to) (hi:PE X i ti) (hs:PSet X t)
   (ha:∀ v,assign (.Subscript o i pos) X.env v=(do
     let ov ← holding [v] (eval o X.env)
     let iv ← holding [v,ov] (eval i X.env)
     standAt pos
     holding [v,ov,iv] (setItem ov iv v)
     release [v,ov,iv] []):=by intro _; rfl):PG X (.Subscript o i pos) (gSub to ti t):=by
 intro pins s σ H v u Q I r h;rw [ha];refine wpAny_bind (wpAny_holding (thn (ho pins s σ H _ I h) fun ov s1 ⟨x,H1,I1,r1,q1⟩=>?_));refine wpAny_bind (wpAny_holding (thn (hi pins s1 σ H1 _ I1 q1) fun iv s2 ⟨y,H2,I2,r2,q2⟩=>?_));refine wpAny_bind (wpAny_standAt (wpAny_bind (wpAny_holding (thn (hs pins s2 σ H2 x y v ov iv u _ I2 r1 r2 r q2) fun _ s3 ⟨H3,I3,q3⟩=>?_))));exact wpAny_release ⟨σ,H3,I3,q3⟩
noncomputable def tAsg (te:TE) (g:TG):TS:=fun D σ H=>te σ H fun x H1=>g x σ H1 D.nx
theorem ps_asg {tg e:Expr} {te:TE} {g:TG} (he:PE X e te) (hg:PG X tg g) (hs:swapsWithSole [tg] e pos.line X.env=pure false:=by rfl) (hw:swappedStores [tg] e X.env=pure none:=by rfl)
   (h1:(assignEach [tg] X.env).map (·.2)=[assign tg X.env]:=by rfl):PS X (.Assign [tg] e pos) (tAsg te g):=by
 intro pins s σ H D I h;refine wpAny_Assign_stores (thn (he pins s σ H _ I h) fun v s1 ⟨x,H1,I1,r1,q1⟩=>?_) hs hw;rw [h1];exact thn (hg pins s1 σ H1 x v _ I1 r1 q1) fun _ s2 q=>q
theorem ps_set {i:Nat} {x:Str} {e:Expr} {te:TE} {pos':Pos} (hN:X.N.Nodup) (hi:X.N[i]? = some x) (hx:Loc X.env.scope x) (he:PE X e te) (hs:swapsWith e (some (.Name x pos')) pos.line X.env=pure false:=by rfl) (hf:X.fn x=true∨X.env.scope.names.lookup x=some .local:=by first | exact .inl rfl | exact .inr rfl | assumption) :
   PS X (.Assign [.Name x pos'] e pos) (tAsg te (gName i)):=by
 intro pins s σ H D I h;refine wpAny_Assign_Name (thn (he pins s σ H _ I h) fun v s1 ⟨y,H1,I1,r1,q1⟩=>?_) hs;exact store_ok I1 hN hi hx r1 (fun s2 I2=>⟨_,H1,I2,q1⟩) hf
noncomputable def tAug (i:Nat) (te:TE) (ti:TIp):TS:=fun D σ H=>∃ x,σ[i]? = some (some x)∧te σ H fun y H1=>ti x y H1 fun z H2=>D.nx (σ.set i (some z)) H2
theorem ps_aug {i:Nat} {x:Str} {e:Expr} {te:TE} {op:Operator} {ti:TIp} {pos':Pos} (hN:X.N.Nodup) (hi:X.N[i]? = some x) (hx:Loc X.env.scope x) (he:PE X e te) (ho:PIp X op ti) (hf:X.fn x=true∨X.env.scope.names.lookup x=some .local:=by first | exact .inl rfl | exact .inr rfl | assumption) :
   PS X (.AugAssign (.Name x pos') op e pos) (tAug i te ti):=by
 intro pins s σ H D I h;obtain ⟨v,e1,h⟩:=h;obtain ⟨m,hn,hl⟩:=I.loc;have vis:Vis X.env.scope x:=by rcases hx with k | k; exact .inl k; exact .inr (.inl k)
 obtain ⟨u,r,l⟩:=hl i x v hi e1 vis;refine wpAny_AugAssign_Name ?_
 have go:wpAny (model X.prog X.w) X.A (eval e X.env) (fun w s₂=>wpAny (model X.prog X.w) X.A (inplaceOp op u w) (fun r s₃=>wpAny (model X.prog X.w) X.A (storeName X.env x r) (fun _=>SP X pins D .next) X.xe s₃) X.xe s₂) X.xe s:=by
   refine thn (he pins s σ H _ I h) fun w s1 ⟨y,H1,I1,r1,q1⟩=>?_;refine thn (ho pins s1 σ H1 v y u w _ I1 r r1 q1) fun z s2 ⟨zv,H2,I2,r2,q2⟩=>?_;exact store_ok I2 hN hi hx r2 (fun s3 I3=>⟨_,H2,I3,q2⟩) hf
 rcases l with ⟨hk,hm⟩ | ⟨hk,c,hc,hcell⟩
 · exact wpAny_loadName_local I.ok.kind hk hn hm go
 · rcases hk with hk | hk
   · exact wpAny_loadName_cell I.ok.kind hk hc hcell go
   · rcases hx with k | k
     · have:X.env.scope.names.lookup x=some .free:=hk;rw [k] at this; cases this
     · have:X.env.scope.names.lookup x=some .free:=hk;rw [k] at this; cases this
noncomputable def ipI (f:Int→Int→Int):TIp:=fun x y H Q=>∃ i j,x = .int i∧y = .int j∧Q (.int (f i j)) H
theorem ip_add:PIp X .Add (ipI fun i j=>i+j):=by
 intro pins s σ H x y v u Q I r1 r2 h;obtain ⟨i,j,e1,e2,q⟩:=h;subst e1; subst e2;obtain ⟨t,rfl⟩:=r1;obtain ⟨t',rfl⟩:=r2;exact iadd_int ⟨.int _,H,I.tok _,⟨_,rfl⟩,q⟩
end
section
variable {X:Cx} {pos:Pos}
end
structure It where
 go:Nat→Hp→Prop
 yld:Nat→Hp→V→Hp→Prop
 stop:Nat→Hp→Prop
noncomputable def FpOk (X:Cx) (pins:List (Addr × Obj)) (H:Hp) (b:Addr):Prop :=
 H b=none∧b≠X.env.locals∧b ∉ X.fs∧(b∈X.ex∨X.s_0.heap.objs.size≤b)∧(∀ x c,X.env.cells.lookup x=some c→c≠b)∧∀ p∈X.pn++pins,p.1≠b
theorem Inv.fpOk {X:Cx} {pins:List (Addr × Obj)} {σ:St} {H H':Hp} {s:Shared} {b:Addr} (I:Inv X pins σ H s) (hb:s.heap.objs.size≤b) (hn:H' b=none):FpOk X pins H' b:=by
 refine ⟨hn,Nat.ne_of_gt (Nat.lt_of_lt_of_le I.lt hb),I.nofs hb,.inr (Nat.le_trans I.sz hb),fun x c e z=>?_,fun p hp z=>?_⟩
 · obtain ⟨v,q⟩:=I.cell x c e;exact absurd (Nat.lt_of_lt_of_le q.lt (by rw [z]; exact hb)) (Nat.lt_irrefl _)
 · exact absurd (Nat.lt_of_lt_of_le (Heap.lt_size (I.pin p hp).1) (by rw [z]; exact hb)) (Nat.lt_irrefl _)
structure Turn (P:Program) (w:World) (K:PySem.W.Frag) (tg:Expr) (J:It) (fp:List Addr) (it:Addr) (tn:Nat→Heap→Prop):Prop where
 mem:it∈fp
 obj:∀ i h,tn i h→∀ b∈fp,∃ o,h.get? b=some o∧∀ v,o.data≠.cell v
 keep:∀ i h h',tn i h→(∀ b∈fp,∀ o,h.get? b=some o→h'.get? b=some o)→tn i h'
 item:∀ (X:Cx),X.prog=P→X.w=w→X.K=K→X.calm=true→∀ (i:Nat) (pins:List (Addr × Obj)) (s:Shared) (σ:St) (H:Hp) (E:Value→Shared→Prop),Inv X pins σ H s→(∀ b∈fp,FpOk X pins H b)→tn i s.heap→J.go i H →
   wpAny (model P w) X.A (pyNext (.ref it)) (fun r s1=>∃ u,r=some u ∧
     wpAny (model P w) X.A (letOwnedTupleGo tg (.ref it) u) (fun _ s2=>∃ x H',Inv X pins σ H' s2∧RelV x u∧J.yld i H x H'∧tn (i+1) s2.heap∧∀ b∈fp,H' b=none) E s1) E s
 done:∀ (X:Cx),X.prog=P→X.w=w→X.K=K→X.calm=true→∀ (i:Nat) (pins:List (Addr × Obj)) (s:Shared) (σ:St) (H:Hp) (E:Value→Shared→Prop),Inv X pins σ H s→(∀ b∈fp,FpOk X pins H b)→tn i s.heap→J.stop i H →
   wpAny (model P w) X.A (pyNext (.ref it)) (fun r s1=>r=none∧Inv X pins σ H s1) E s
 self:∀ (A:Around) (i:Nat) (s:Shared) (Q:Value→Shared→Prop) (E:Value→Shared→Prop),tn i s.heap→Q (.ref it) s→wpAny (model P w) A (pyIter (.ref it)) Q E s
noncomputable abbrev TI:=St→Hp→(It→Hp→Prop)→Prop
noncomputable def PIE (X:Cx) (pins:List (Addr × Obj)) (σ:St) (tg:Expr) (R:It→Hp→Prop) (itv:Value) (s2:Shared):Prop :=
 ∃ (it:Addr) (fp:List Addr) (tn:Nat→Heap→Prop) (J:It) (H':Hp),itv = .ref it∧Inv X pins σ H' s2∧Turn X.prog X.w X.K tg J fp it tn∧tn 0 s2.heap∧(∀ b∈fp,FpOk X pins H' b)∧R J H'
noncomputable def PI (X:Cx) (tg iter:Expr) (wi:TI):Prop :=
 ∀ (pins:List (Addr × Obj)) (s:Shared) (σ:St) (H:Hp) (R:It→Hp→Prop),Inv X pins σ H s→wi σ H R →
   wpAny (model X.prog X.w) X.A (eval iter X.env) (fun v s1=>wpAny (model X.prog X.w) X.A (pyIter v) (PIE X pins σ tg R) X.xe s1) X.xe s
theorem go_of {M:Model} {A:Around} {E:Value→Shared→Prop} {s:Shared} {tg:Expr} {it:Addr} {u:Value} {o:Obj} {n:String} {vs:Array Value} {Q:Unit→Shared→Prop} (ho:s.heap.get? it=some o) (hc:o.cls = .type n) (hd:o.data = .fields vs)
   (hn:["enumerate","zip","dict_itemiterator","dict_reverseitemiterator","odict_iterator","itertools.zip_longest","itertools.pairwise"].contains n=false) (hQ:Q () s):wpAny M A (letOwnedTupleGo tg (.ref it) u) Q E s:=by
 unfold letOwnedTupleGo
 cases tg <;> first
   | exact wpAny_pure hQ
   | (cases u <;> first
       | exact wpAny_pure hQ
       | (refine wpAny_bind (wpAny_load ho ?_)
          rw [hc,hd];show wpAny M A (if (["enumerate","zip","dict_itemiterator","dict_reverseitemiterator","odict_iterator","itertools.zip_longest","itertools.pairwise"].contains n && vs[0]? == some (rawInt _))=true then _ else _) Q E s;rw [if_neg (by intro h; rw [hn,Bool.false_and] at h; cases h)];exact wpAny_pure hQ))
noncomputable def Itl (K:PySem.W.Frag) (a:Addr):It :=
 ⟨fun i H=>∃ xs x,SqL K H a xs∧xs[i]? = some x,fun i H x H'=>H'=H∧∀ xs,SqL K H a xs→xs[i]? = some x,fun i H=>∃ xs,SqL K H a xs∧xs.length≤i⟩
noncomputable def Itt (K:PySem.W.Frag) (a:Addr):It :=
 ⟨fun i H=>∃ xs x,SqT K H a xs∧xs[i]? = some x,fun i H x H'=>H'=H∧∀ xs,SqT K H a xs→xs[i]? = some x,fun i H=>∃ xs,SqT K H a xs∧xs.length≤i⟩
noncomputable def Itr (lo:Int) (n:Nat):It:=⟨fun i _=>i < n,fun i H x H'=>H'=H∧x = .int (lo+i),fun i _=>n≤i⟩
theorem turn_list {P:Program} {w:World} {K:PySem.W.Frag} {tg:Expr} (a it:Addr):Turn P w K tg (Itl K a) [it] it (fun i h=>h.IsListIter it a i) where
 mem:=by simp
 obj:=fun i h st b hb=>by
   have e:b=it:=by simpa using hb
   subst e;obtain ⟨o,e,c,d⟩:=st;exact ⟨o,e,fun v z=>by rw [d] at z; cases z⟩
 keep:=fun i h h' st k=>st.at fun o e=>k it (by simp) o e
 item:=by
   intro X hP hw hK hc i pins s σ H E I hf st hg;subst hP hw hK;obtain ⟨xs,x,hq,hx⟩:=hg;obtain ⟨its,rv,p,hz⟩:=I.list hq;obtain ⟨u,hu,ru⟩:=rv.get hx;obtain ⟨f0,f1,f2,f3,f4,f5⟩:=hf it (by simp);refine wpAny_pyNext_list_item st p.isList (x:=u) (by simpa using hu) fun h' st' sb=>?_;have I1:Inv X pins σ H { s with heap:=h' }:=I.turned (t':=s.toks) (fun b o hb e=>(sb.2 b hb).trans e) f0 f1 f3 f4 f5;obtain ⟨o,e,c,d⟩:=id st';exact ⟨u,rfl,go_of (s:={ s with heap:=h' }) e c d (by decide) ⟨x,H,I1,ru,⟨rfl,fun ys hy=>by rw [I.list_inj hy hq]; exact hx⟩,st',fun b hb=>(hf b hb).1⟩⟩
 done:=by
   intro X hP hw hK hc i pins s σ H E I hf st hg;subst hP hw hK;obtain ⟨xs,hq,hx⟩:=hg;obtain ⟨its,rv,p,hz⟩:=I.list hq;obtain ⟨f0,f1,f2,f3,f4,f5⟩:=hf it (by simp);have hl:=rv.length;exact wpAny_pyNext_list_end (I.ok.hd hc) st p.isList (by simp; omega) fun h' eb=>⟨rfl,I.turned (t':=s.toks) (fun b o hb e=>eb b o hb e) f0 f1 f3 f4 f5⟩
 self:=fun _ _ _ _ _ st h=>wpAny_pyIter_listiter st h
theorem turn_range {P:Program} {w:World} {K:PySem.W.Frag} {tg:Expr} (it:Addr) (lo:Int) (n:Nat):Turn P w K tg (Itr lo n) [it] it (fun i h=>IsRangeIter h it (lo+(i:Nat)*1) ((n:Int) - (i:Nat)) 1) where
 mem:=by simp
 obj:=fun i h st b hb=>by
   have e:b=it:=by simpa using hb
   subst e
   exact ⟨_,st,fun v z=>by
     have z':Data.fields _=Data.cell v:=z;cases z'⟩
 keep:=fun i h h' st k=>k it (by simp) _ st
 item:=by
   intro X hP hw hK hc i pins s σ H E I hf st hg;subst hP hw hK;obtain ⟨f0,f1,f2,f3,f4,f5⟩:=hf it (by simp);have W:=Walks.range (prog:=X.prog) (w:=X.w) (I.ok.hd hc) it lo 1 n;refine W.item i s _ _ hg st fun v h' tk hv st' kk=>?_;obtain ⟨t,rfl⟩:=hv;have I1:Inv X pins σ H { s with heap:=h',toks:=tk }:=I.turned (fun b o hb e=>kk b o (by simpa using hb) e) f0 f1 f3 f4 f5;refine ⟨_,rfl,go_of (s:={ s with heap:=h',toks:=tk }) (n := "range_iterator") st' rfl rfl (by decide) ⟨.int (lo+i),H,I1,⟨t,?_⟩,⟨rfl,rfl⟩,st',fun b hb=>(hf b hb).1⟩⟩;rw [Int.mul_one]
 done:=by
   intro X hP hw hK hc i pins s σ H E I hf st hg;subst hP hw hK;obtain ⟨f0,f1,f2,f3,f4,f5⟩:=hf it (by simp);exact wpAny_pyNext_range_end (I.ok.hd hc) st (by have:n≤i:=hg; omega) fun h' eb=>⟨rfl,I.turned (t':=s.toks) (fun b o hb e=>eb b o hb e) f0 f1 f3 f4 f5⟩
 self:=fun _ _ _ _ _ st h=>wpAny_pyIter_rangeiter st h
end L2
namespace L2
open PySem PySem.Spec PyProof.Rows
section
variable {X:Cx} {tg:Expr}
noncomputable def iList (K:PySem.W.Frag) (tl:TE):TI:=fun σ H R=>tl σ H fun x H1=>∃ a,x = .ref a∧(∃ xs,SqL K H1 a xs)∧R (Itl K a) H1
noncomputable def iTup (K:PySem.W.Frag) (tl:TE):TI:=fun σ H R=>tl σ H fun x H1=>∃ a,x = .ref a∧(∃ xs,SqT K H1 a xs)∧R (Itt K a) H1
theorem pi_list {l:Expr} {tl:TE} (hl:PE X l tl):PI X tg l (iList X.K tl):=by
 intro pins s σ H R I h;refine thn (hl pins s σ H _ I h) fun v s1 ⟨x,H1,I1,r1,q1⟩=>?_;obtain ⟨a,e,⟨xs,hq⟩,q⟩:=q1;subst e;cases r1;obtain ⟨its,rv,p,hz⟩:=I1.list hq;refine wpAny_pyIter_list p.isList ?_;refine ⟨s1.heap.objs.size,[s1.heap.objs.size],_,_,H1,rfl,I1.kept (t':=s1.toks) fun b o e=>Heap.get?_push_of_some _ e,turn_list a _,⟨_,Heap.get?_push_size _ rfl,rfl,rfl⟩,fun b hb=>?_,q⟩;have e:b=s1.heap.objs.size:=by simpa using hb
 subst e;exact I1.fpOk (Nat.le_refl _) (I1.hok.fresh (Nat.le_refl _))
theorem range_it {pins:List (Addr × Obj)} {σ:St} {H:Hp} {s:Shared} {R:It→Hp→Prop} {E:Value→Shared→Prop} {lo hi:Int} {t u v:Tok} {tk:Nat} (I:Inv X pins σ H s) (h1:-(2 ^ 62)≤lo) (h2:lo < 2 ^ 62) (h3:-(2 ^ 62)≤hi) (h4:hi < 2 ^ 62)
   (q:R (Itr lo (hi - lo).toNat) H):wpAny (model X.prog X.w) X.A (pyIter (.ref s.heap.objs.size)) (PIE X pins σ tg R) E { s with heap:=s.heap.push { cls:=.type "range",data:=.fields #[.int lo t,.int hi u,.int 1 v] },toks:=tk }:=by
 refine wpAny_pyIter_range (IsRange.new ..) (small_one h1 h2 h3 h4) ?_;have I1:Inv X pins σ H { s with heap:=s.heap.push { cls:=.type "range",data:=.fields #[.int lo t,.int hi u,.int 1 v] },toks:=tk }:=I.kept fun b o e=>Heap.get?_push_of_some _ e
 refine ⟨(s.heap.push { cls:=.type "range",data:=.fields #[.int lo t,.int hi u,.int 1 v] }).objs.size,[(s.heap.push { cls:=.type "range",data:=.fields #[.int lo t,.int hi u,.int 1 v] }).objs.size],_,_,H,rfl,
   I1.kept (t':=tk) fun b o e=>Heap.get?_push_of_some _ e,turn_range _ lo (hi - lo).toNat,?_,fun b hb=>?_,q⟩
 · have e1:lo+((0:Nat):Int)*1=lo:=by simp
   have e2:(((hi - lo).toNat:Nat):Int) - ((0:Nat):Int)=Builtin.Range.rangeSize lo hi 1:=by rw [rangeSize_one]; split <;> omega
   show IsRangeIter _ _ (lo+((0:Nat):Int)*1) ((((hi - lo).toNat:Nat):Int) - ((0:Nat):Int)) 1;rw [e1,e2];exact Heap.get?_push_size _ rfl
 · have e:b=(s.heap.push { cls:=.type "range",data:=.fields #[.int lo t,.int hi u,.int 1 v] }).objs.size:=by simpa using hb
   subst e;exact I1.fpOk (Nat.le_refl _) (I1.hok.fresh (Nat.le_refl _))
noncomputable def iRng1 (ta:TA):TI:=fun σ H R=>ta σ H fun vs H1=>∃ j:Int,vs=[.int j]∧-(2 ^ 62)≤j∧j < 2 ^ 62∧R (Itr 0 j.toNat) H1
noncomputable def iRng2 (ta:TA):TI:=fun σ H R=>ta σ H fun vs H1=>∃ i j:Int,vs=[.int i,.int j]∧(-(2 ^ 62)≤i∧i < 2 ^ 62∧-(2 ^ 62)≤j∧j < 2 ^ 62)∧R (Itr i (j - i).toNat) H1
theorem pi_range1 {a:Expr} {ta:TA} {p pos:Pos} (hg:Gl X "range") (hm:X.mg "range" = none) (ha:PA X [a] ta) (hs:starEach [a] X.env=[(false,eval a X.env)]:=by rfl):PI X tg (.Call (.Name "range" p) [a] [] pos) (iRng1 ta):=by
 intro pins s σ H R I h;refine Call_ (ld_blt I hg hm boot_range (PyProof.Rows.callWith_type1 (thn (ha pos pins s σ H _ I h) fun us s1 ⟨vs,H1,I1,r1,q1⟩=>?_) hs rfl));obtain ⟨j,e,q1,q2,q⟩:=q1;subst e
 cases r1 with
 | cons r rr =>
   cases rr;obtain ⟨t,rfl⟩:=r;exact call_range_1 (range_it I1 (by omega) (by omega) q1 q2 (by simpa using q))
theorem pi_range2 {a b:Expr} {ta:TA} {p pos:Pos} (hg:Gl X "range") (hm:X.mg "range" = none) (ha:PA X [a,b] ta) (hs:starEach [a,b] X.env=[(false,eval a X.env),(false,eval b X.env)]:=by rfl) (hs2:starEach [b] X.env=[(false,eval b X.env)]:=by rfl) :
   PI X tg (.Call (.Name "range" p) [a,b] [] pos) (iRng2 ta):=by
 intro pins s σ H R I h;refine Call_ (ld_blt I hg hm boot_range (PyProof.Rows.callWith_type1 (thn (ha pos pins s σ H _ I h) fun us s1 ⟨vs,H1,I1,r1,q1⟩=>?_) (by rw [hs,hs2]) (by rw [hs2]; rfl)));obtain ⟨i,j,e,⟨q1,q2,q3,q4⟩,q⟩:=q1;subst e
 cases r1 with
 | cons r rr =>
   cases rr with
   | cons r' rr =>
     cases rr;obtain ⟨t,rfl⟩:=r;obtain ⟨t',rfl⟩:=r';exact call_range_2 (range_it I1 q1 q2 q3 q4 q)
noncomputable def tFor (wi:TI) (g:TG) (tb:TS):TS:=fun D σ H=>wi σ H fun J H1=>∃ W:Nat→Nat→St→Hp→Prop,(∃ m,W 0 m σ H1)∧∀ i m σ H,W i m σ H →
 (J.stop i H∧D.nx σ H)∨(J.go i H∧∃ N:St→Hp→Prop,(∀ σ' H',N σ' H'→∃ m',m' < m∧W (i+1) m' σ' H')∧∀ x H',J.yld i H x H'→g x σ H' fun σ2 H2=>tb { D with nx:=N,ct:=N,bk:=D.nx } σ2 H2)
noncomputable def pinsAt (fp:List Addr) (h:Heap):List (Addr × Obj):=fp.filterMap fun b=>(h.get? b).map fun o=>(b,o)
theorem mem_pinsAt {fp:List Addr} {h:Heap} {b:Addr} {o:Obj} (hb:b∈fp) (e:h.get? b=some o):(b,o)∈pinsAt fp h:=List.mem_filterMap.mpr ⟨b,hb,by rw [e]; rfl⟩
theorem of_pinsAt {fp:List Addr} {h:Heap} {p:Addr × Obj} (hp:p∈pinsAt fp h):p.1∈fp∧h.get? p.1=some p.2:=by
 obtain ⟨b,hb,e⟩:=List.mem_filterMap.mp hp
 cases q:h.get? b with
 | none=>rw [q] at e; cases e
 | some o =>
   rw [q] at e;have e':(b,o)=p:=Option.some.inj e;subst e';exact ⟨hb,q⟩
theorem Inv.pinned {pins:List (Addr × Obj)} {σ:St} {H:Hp} {s:Shared} {fp:List Addr} (I:Inv X pins σ H s) (hf:∀ b∈fp,FpOk X pins H b) (ho:∀ b∈fp,∃ o,s.heap.get? b=some o∧∀ v,o.data≠.cell v):Inv X (pins++pinsAt fp s.heap) σ H s :=
 I.pins_of fun p hp=>(List.mem_append.mp hp).elim (fun z=>I.pin p (List.mem_append_right _ z)) fun z=>by
   obtain ⟨hb,e⟩:=of_pinsAt z;obtain ⟨f0,f1,f2,_⟩:=hf p.1 hb;obtain ⟨o,e',d⟩:=ho p.1 hb;rw [e] at e'; cases e';exact ⟨e,f0,f1,f2,d⟩
theorem Inv.unpinned {pins pl:List (Addr × Obj)} {σ:St} {H:Hp} {s:Shared} (I:Inv X (pins++pl) σ H s):Inv X pins σ H s:=I.pins_of fun p hp=>I.pin p (List.mem_append_right _ (List.mem_append_left _ hp))
theorem ps_for {iter:Expr} {body:List Stmt} {wi:TI} {g:TG} {tb:TS} {pos:Pos} (hp:PassesOwn (model X.prog X.w) X.A X.env X.xe) (hc:X.calm=true) (hi:PI X tg iter wi) (hg:PG X tg g) (hb:PSs X body tb)
   (hs:∀ x,foldedSetIterable iter X.env x=pure x:=by intro _; rfl):PS X (.For tg iter body [] pos) (tFor wi g tb):=by
 intro pins s σ H D I h;refine wpAny_For (thn (hi pins s σ H _ I h) fun v s1 h1=>thn h1 fun itv s2 h2=>?_) hs;obtain ⟨it,fp,tn,J,H2,e,I2,T,st2,f2,W,⟨m0,w0⟩,turn⟩:=h2;subst e;have stat:∀ {H':Hp},(∀ b∈fp,H' b=none)→∀ b∈fp,FpOk X pins H' b:=fun hn b hb=>⟨hn b hb,(f2 b hb).2⟩;refine codeAny_forLoop_any (fun n s'=>∃ i σ' H',Inv X pins σ' H' s'∧tn i s'.heap∧(∀ b∈fp,H' b=none)∧W i n σ' H') ?_ m0 ⟨0,σ,H2,I2,st2,fun b hb=>(f2 b hb).1,w0⟩;rintro n s3 ⟨i,σ3,H3,I3,st3,fr3,w3⟩;rcases turn i n σ3 H3 w3 with ⟨stop,qn⟩ | ⟨go,N,hN,step⟩
 · refine wpAny_passesOwn hp (thn (T.done X rfl rfl rfl hc i pins s3 σ3 H3 X.xe I3 (stat fr3) st3 stop) fun r s4 ⟨hr,I4⟩=>?_);subst hr;exact wpAny_execs_nil ⟨σ3,H3,I4,qn⟩
 · refine wpAny_passesOwn hp (thn (T.item X rfl rfl rfl hc i pins s3 σ3 H3 X.xe I3 (stat fr3) st3 go) fun r s4 ⟨u,hr,h4⟩=>?_);subst hr;refine wpAny_passesOwn hp (thn h4 fun _ s5 ⟨x,H5,I5,r5,y5,st5,fr5⟩=>?_);have I5':=I5.pinned (stat fr5) (T.obj _ _ st5);refine wpAny_passesOwn hp (thn (hg _ s5 σ3 H5 x u _ I5' r5 (step x H5 y5)) fun _ s6 ⟨σ6,H6,I6,q6⟩=>?_);refine wpAny_passesOwn hp (thn (hb _ s6 σ6 H6 _ I6 q6) fun f s7 q7=>?_)
   have again:∀ {σ7:St} {H7:Hp},Inv X (pins++pinsAt fp s5.heap) σ7 H7 s7→N σ7 H7→∃ m,m < n∧∃ i σ' H',Inv X pins σ' H' s7∧tn i s7.heap∧(∀ b∈fp,H' b=none)∧W i m σ' H':=fun {σ7 H7} I7 n7=>by
     obtain ⟨m',hm,w7⟩:=hN σ7 H7 n7;refine ⟨m',hm,i+1,σ7,H7,I7.unpinned,T.keep _ _ _ st5 fun b hb o e=>(I7.pin (b,o) (List.mem_append_right _ (List.mem_append_right _ (mem_pinsAt hb e)))).1,fun b hb=>?_,w7⟩;obtain ⟨o,e,d⟩:=T.obj _ _ st5 b hb;exact (I7.pin (b,o) (List.mem_append_right _ (List.mem_append_right _ (mem_pinsAt hb e)))).2.1
   cases f with
   | next=>obtain ⟨σ7,H7,I7,n7⟩:=q7; exact again I7 n7
   | cont=>obtain ⟨σ7,H7,I7,n7⟩:=q7; exact again I7 n7
   | brk=>obtain ⟨σ7,H7,I7,q7⟩:=q7; exact ⟨σ7,H7,I7.unpinned,q7⟩
   | ret v=>obtain ⟨x7,σ7,H7,I7,r7,q7⟩:=q7; exact ⟨x7,σ7,H7,I7.unpinned,r7,q7⟩
end
theorem for_list {K:PySem.W.Frag} {a:Addr} {xs:List V} {g:TG} {tb:TS} {D:Ends} {σ:St} {H:Hp} (Pv:Nat→St→Hp→Prop) (h0:Pv 0 σ H) (hl:∀ i σ H,i≤xs.length→Pv i σ H→SqL K H a xs)
   (hs:∀ i x σ H,xs[i]? = some x→Pv i σ H→g x σ H fun σ2 H2=>tb { D with nx:=Pv (i+1),ct:=Pv (i+1),bk:=D.nx } σ2 H2) (hd:∀ σ H,Pv xs.length σ H→D.nx σ H) :
   ∃ W:Nat→Nat→St→Hp→Prop,(∃ m,W 0 m σ H)∧∀ i m σ H,W i m σ H →
     ((Itl K a).stop i H∧D.nx σ H)∨((Itl K a).go i H∧∃ N:St→Hp→Prop,(∀ σ' H',N σ' H'→∃ m',m' < m∧W (i+1) m' σ' H')∧∀ x H',(Itl K a).yld i H x H'→g x σ H' fun σ2 H2=>tb { D with nx:=N,ct:=N,bk:=D.nx } σ2 H2):=by
 refine ⟨fun i m σ H=>m=xs.length - i∧i≤xs.length∧Pv i σ H,⟨xs.length,by simp,Nat.zero_le _,h0⟩,?_⟩;rintro i m σ H ⟨rfl,hi,p⟩;have q:=hl i σ H hi p;by_cases hlt:i < xs.length
 · refine .inr ⟨⟨xs,xs[i],q,by simp [hlt]⟩,Pv (i+1),fun σ' H' p'=>⟨xs.length - (i+1),by omega,rfl,hlt,p'⟩,fun x H' y=>?_⟩;obtain ⟨e,y⟩:=y;subst e;exact hs i x σ _ (y xs q) p
 · have e:i=xs.length:=by omega
   subst e;exact .inl ⟨⟨xs,q,Nat.le_refl _⟩,hd σ H p⟩
theorem for_range {lo:Int} {n:Nat} {g:TG} {tb:TS} {D:Ends} {σ:St} {H:Hp} (Pv:Nat→St→Hp→Prop) (h0:Pv 0 σ H)
   (hs:∀ i σ H,i < n→Pv i σ H→g (.int (lo+i)) σ H fun σ2 H2=>tb { D with nx:=Pv (i+1),ct:=Pv (i+1),bk:=D.nx } σ2 H2) (hd:∀ σ H,Pv n σ H→D.nx σ H) :
   ∃ W:Nat→Nat→St→Hp→Prop,(∃ m,W 0 m σ H)∧∀ i m σ H,W i m σ H →
     ((Itr lo n).stop i H∧D.nx σ H)∨((Itr lo n).go i H∧∃ N:St→Hp→Prop,(∀ σ' H',N σ' H'→∃ m',m' < m∧W (i+1) m' σ' H')∧∀ x H',(Itr lo n).yld i H x H'→g x σ H' fun σ2 H2=>tb { D with nx:=N,ct:=N,bk:=D.nx } σ2 H2):=by
 refine ⟨fun i m σ H=>m=n - i∧i≤n∧Pv i σ H,⟨n,by simp,Nat.zero_le _,h0⟩,?_⟩;rintro i m σ H ⟨rfl,hi,p⟩;by_cases hlt:i < n
 · refine .inr ⟨hlt,Pv (i+1),fun σ' H' p'=>⟨n - (i+1),by omega,rfl,hlt,p'⟩,fun x H' y=>?_⟩;obtain ⟨e,y⟩:=y;subst e y;exact hs i σ _ hlt p
 · have e:i=n:=by omega
   subst e;exact .inl ⟨Nat.le_refl _,hd σ H p⟩
end L2
namespace L2
open PySem PySem.Spec PyProof.Rows
noncomputable abbrev R2:=V→V→Hp→VK→Prop
noncomputable def OpR (X:Cx) (f:Value→Value→Sem Value) (r:R2):Prop :=
 ∀ (pins:List (Addr × Obj)) (s:Shared) (σ:St) (H:Hp) (x y:V) (v u:Value) (Q:VK),Inv X pins σ H s→RelV x v→RelV y u→r x y H Q →
   wpAny (model X.prog X.w) X.A (f v u) (EP X pins σ Q) X.xe s
noncomputable def UnR (X:Cx) (f:Value→Sem Value) (r:V→Hp→VK→Prop):Prop :=
 ∀ (pins:List (Addr × Obj)) (s:Shared) (σ:St) (H:Hp) (x:V) (v:Value) (Q:VK),Inv X pins σ H s→RelV x v→r x H Q →
   wpAny (model X.prog X.w) X.A (f v) (EP X pins σ Q) X.xe s
noncomputable def CallR (X:Cx) (f:Value) (r:List V→Hp→VK→Prop):Prop :=
 ∀ (pins:List (Addr × Obj)) (s:Shared) (σ:St) (H:Hp) (xs:List V) (us:List Value) (Q:VK),Inv X pins σ H s→Vals xs us→r xs H Q →
   wpAny (model X.prog X.w) X.A (call f us) (EP X pins σ Q) X.xe s
noncomputable def TruR (X:Cx) (r:V→Hp→(Bool→Hp→Prop)→Prop):Prop :=
 ∀ (pins:List (Addr × Obj)) (s:Shared) (σ:St) (H:Hp) (x:V) (v:Value) (Q:Bool→Hp→Prop),Inv X pins σ H s→RelV x v→r x H Q →
   wpAny (model X.prog X.w) X.A (truthy v) (TP X pins σ Q) X.xe s
noncomputable def tOp (r:R2) (ta tb:TE):TE:=fun σ H Q=>ta σ H fun x H1=>tb σ H1 fun y H2=>r x y H2 Q
noncomputable def tUn (r:V→Hp→VK→Prop) (ta:TE):TE:=fun σ H Q=>ta σ H fun x H1=>r x H1 Q
noncomputable def rI (C:Int→Int→Prop) (g:Int→Int→V):R2:=fun x y H Q=>∃ i j,x = .int i∧y = .int j∧C i j∧Q (g i j) H
noncomputable def rI0 (g:Int→Int→V):R2:=fun x y H Q=>∃ i j,x = .int i∧y = .int j∧Q (g i j) H
noncomputable def rU (g:Int→V):V→Hp→VK→Prop:=fun x H Q=>∃ i,x = .int i∧Q (g i) H
section
variable {X:Cx} {a b c:Expr} {ta tb tc:TE} {pos:Pos}
theorem binT (ha:PE X a ta) (hb:PE X b tb) {pins:List (Addr × Obj)} {s:Shared} {σ:St} {H:Hp} {R:V→V→Hp→Prop} (I:Inv X pins σ H s)
   (h:ta σ H fun x H1=>tb σ H1 fun y H2=>R x y H2) {Q:Value→Shared→Prop} {f:Value→Value→Sem Value}
   (hf:∀ v u s2 x y H2,Inv X pins σ H2 s2→RelV x v→RelV y u→R x y H2→wpAny (model X.prog X.w) X.A (f v u) Q X.xe s2) :
   wpAny (model X.prog X.w) X.A (eval a X.env) (fun v s₁=>wpAny (model X.prog X.w) X.A (eval b X.env) (fun u s₂=>wpAny (model X.prog X.w) X.A (f v u) Q X.xe s₂) X.xe s₁) X.xe s:=by
 refine thn (ha pins s σ H _ I h) fun v s1 ⟨x,H1,I1,r1,q1⟩=>?_;refine thn (hb pins s1 σ H1 _ I1 q1) fun u s2 ⟨y,H2,I2,r2,q2⟩=>?_;exact hf v u s2 x y H2 I2 r1 r2 q2
theorem pe_op {op:Operator} {r:R2} (ho:OpR X (binaryOp op) r) (ha:PE X a ta) (hb:PE X b tb):PE X (.BinOp a op b pos) (tOp r ta tb):=by
 intro pins s σ H Q I h;exact wpAny_BinOp (binT ha hb I h fun v u s2 x y H2 I2 rx ry q=>ho pins s2 σ H2 x y v u Q I2 rx ry q)
theorem pe_un {op:UnaryOp} {r:V→Hp→VK→Prop} (ho:UnR X (unaryOp op) r) (ha:PE X a ta):PE X (.UnaryOp op a pos) (tUn r ta):=by
 intro pins s σ H Q I h;exact UnaryOp_ (thn (ha pins s σ H _ I h) fun v s1 ⟨x,H1,I1,r1,q1⟩=>ho pins s1 σ H1 x v Q I1 r1 q1)
theorem opI {f:Value→Value→Sem Value} {C:Int→Int→Prop} {g:Int→Int→Int}
   (rule:∀ (i j:Int) (t u:Tok) (s:Shared) (Q:Value→Shared→Prop) (E:Value→Shared→Prop),C i j→Q (.int (g i j) s.toks) { s with toks:=s.toks+1 }→wpAny (model X.prog X.w) X.A (f (.int i t) (.int j u)) Q E s) :
   OpR X f (rI C fun i j=>.int (g i j)):=by
 intro pins s σ H x y v u Q I rx ry h;obtain ⟨i,j,rfl,rfl,hc,q⟩:=h;obtain ⟨t,rfl⟩:=rx;obtain ⟨t',rfl⟩:=ry;exact rule i j t t' s _ _ hc ⟨.int (g i j),H,I.tok _,⟨_,rfl⟩,q⟩
theorem opI0 {f:Value→Value→Sem Value} {g:Int→Int→Int}
   (rule:∀ (i j:Int) (t u:Tok) (s:Shared) (Q:Value→Shared→Prop) (E:Value→Shared→Prop),Q (.int (g i j) s.toks) { s with toks:=s.toks+1 }→wpAny (model X.prog X.w) X.A (f (.int i t) (.int j u)) Q E s) :
   OpR X f (rI0 fun i j=>.int (g i j)):=by
 intro pins s σ H x y v u Q I rx ry h;obtain ⟨i,j,rfl,rfl,q⟩:=h;obtain ⟨t,rfl⟩:=rx;obtain ⟨t',rfl⟩:=ry;exact rule i j t t' s _ _ ⟨.int (g i j),H,I.tok _,⟨_,rfl⟩,q⟩
theorem opB0 {f:Value→Value→Sem Value} {g:Int→Int→Bool}
   (rule:∀ (i j:Int) (t u:Tok) (s:Shared) (Q:Value→Shared→Prop) (E:Value→Shared→Prop),Q (.bool (g i j)) s→wpAny (model X.prog X.w) X.A (f (.int i t) (.int j u)) Q E s) :
   OpR X f (rI0 fun i j=>.bl (g i j)):=by
 intro pins s σ H x y v u Q I rx ry h;obtain ⟨i,j,rfl,rfl,q⟩:=h;obtain ⟨t,rfl⟩:=rx;obtain ⟨t',rfl⟩:=ry;exact rule i j t t' s _ _ ⟨.bl (g i j),H,I,rfl,q⟩
noncomputable def CDiv (i j:Int):Prop:=0 < j∧j < 1073741824
noncomputable def CPow (i j:Int):Prop:=0≤j∧j≤1000000∧i.natAbs < 2 ^ 64
noncomputable def CMul (i j:Int):Prop:=(-(2 ^ 64) < i∧i < 2 ^ 64)∨(-(2 ^ 64) < j∧j < 2 ^ 64)
theorem CMul.ok {i j:Int} (h:CMul i j):IntMulOk i j:=by
 rcases h with ⟨h1,h2⟩ | ⟨h1,h2⟩
 · exact .of_left (intBits_le_64 h1 h2)
 · exact .of_right (intBits_le_64 h1 h2)
theorem two_pow_nn (k:Nat):(0:Int)≤2 ^ k:=by
 rw [two_pow_cast];exact Int.natCast_nonneg _
theorem op_add:OpR X (binaryOp .Add) (rI0 fun i j=>.int (i+j)):=opI0 fun _ _ _ _ _ _ _ q=>add_int q
theorem op_sub:OpR X (binaryOp .Sub) (rI0 fun i j=>.int (i - j)):=opI0 fun _ _ _ _ _ _ _ q=>sub_int q
theorem op_mul:OpR X (binaryOp .Mult) (rI CMul fun i j=>.int (i*j)):=opI fun _ _ _ _ _ _ _ hc q=>mul_int q hc.ok
theorem op_fdiv:OpR X (binaryOp .FloorDiv) (rI CDiv fun i j=>.int (i / j)):=opI fun i j _ _ _ _ _ hc q=>by
 have h1:(0:Int) < j:=hc.1;have h2:j < 1073741824:=hc.2;exact floordiv_int (by omega) (by rw [Int.fdiv_eq_ediv_of_nonneg i (by omega)]; exact q) (.inl (PyProof.noPylong_small (by omega)))
theorem op_mod:OpR X (binaryOp .Mod) (rI (fun _ j=>0 < j) fun i j=>.int (i % j)):=opI fun i j _ _ _ _ _ hc q=>by
 have h1:(0:Int) < j:=hc;exact mod_int' (by omega) (by rw [Int.fmod_eq_emod_of_nonneg i (by omega)]; exact q)
theorem op_shl:OpR X (binaryOp .LShift) (rI CPow fun i j=>.int (i*2 ^ j.toNat)):=opI fun _ _ _ _ _ _ _ hc q=>lshift_int_small hc.1 hc.2.1 hc.2.2 q
theorem op_shr:OpR X (binaryOp .RShift) (rI (fun _ j=>0≤j) fun i j=>.int (i / 2 ^ j.toNat)):=opI fun i j _ _ _ _ _ hc q =>
 rshift_int hc (by rw [Int.fdiv_eq_ediv_of_nonneg i (two_pow_nn _)]; exact q)
theorem op_and:OpR X (binaryOp .BitAnd) (rI0 fun i j=>.int (Builtin.bitAnd i j)):=opI0 fun _ _ _ _ _ _ _ q=>and_int q
theorem unI {f:Value→Sem Value} {g:Int→Int}
   (rule:∀ (i:Int) (t:Tok) (s:Shared) (Q:Value→Shared→Prop) (E:Value→Shared→Prop),Q (.int (g i) s.toks) { s with toks:=s.toks+1 }→wpAny (model X.prog X.w) X.A (f (.int i t)) Q E s) :
   UnR X f (rU fun i=>.int (g i)):=by
 intro pins s σ H x v Q I rx h;obtain ⟨i,rfl,q⟩:=h;obtain ⟨t,rfl⟩:=rx;exact rule i t s _ _ ⟨.int (g i),H,I.tok _,⟨_,rfl⟩,q⟩
theorem un_neg:UnR X (unaryOp .USub) (rU fun i=>.int (-i)):=unI fun _ _ _ _ _ q=>neg_int q
theorem un_inv:UnR X (unaryOp .Invert) (rU fun i=>.int (Builtin.bitNot i)):=unI fun _ _ _ _ _ q=>invert_int q
end
noncomputable def scal:V→V→Bool
 | .non,.non=>true | .non,.int _=>true | .int _,.non=>true | .non,.bl _=>true | .bl _,.non=>true | .non,.str _=>true | .str _,.non=>true
 | .int _,.int _=>true | .bl _,.bl _=>true | .str _,.str _=>true | .byt _,.byt _=>true
 | .int _,.str _=>true | .str _,.int _=>true | .bl _,.str _=>true | .str _,.bl _=>true
 | _,_=>false
noncomputable def rEq:R2:=fun x y H Q=>scal x y=true∧Q (.bl (decide (x=y))) H
noncomputable def rNe:R2:=fun x y H Q=>scal x y=true∧Q (.bl (!decide (x=y))) H
theorem dec_int {i j:Int}:decide (V.int i=V.int j)=(i == j):=by
 rw [Bool.eq_iff_iff];simp
theorem dec_bl {i j:Bool}:decide (V.bl i=V.bl j)=(i == j):=by
 rw [Bool.eq_iff_iff];simp
theorem dec_str {i j:Str}:decide (V.str i=V.str j)=(i == j):=by
 rw [Bool.eq_iff_iff];simp
theorem dec_byt {i j:Array UInt8}:decide (V.byt i=V.byt j)=(i.toList == j.toList):=by
 rw [Bool.eq_iff_iff];cases i;cases j;simp
section
variable {X:Cx} {a b c:Expr} {ta tb tc:TE} {pos:Pos}
theorem fin_bl {pins:List (Addr × Obj)} {σ:St} {H:Hp} {s:Shared} {Q:VK} {k k':Bool} (I:Inv X pins σ H s) (q:Q (.bl k) H) (e:k=k'):EP X pins σ Q (.bool k') s:=by
 subst e;exact ⟨.bl k,H,I,rfl,q⟩
theorem op_eq:OpR X (compareOp .Eq) rEq:=by
 intro pins s σ H x y v u Q I rx ry h;obtain ⟨hs,q⟩:=h
 cases x with
 | non =>
   cases rx
   cases y with
   | non=>cases ry; exact PySem.EqNone.eq_none_none (fin_bl I q (by simp))
   | bl j=>cases ry; exact PySem.EqNone.eq_none_bool (fin_bl I q (by simp))
   | int j=>obtain ⟨t',rfl⟩:=ry; exact PySem.EqNone.eq_none_int (fin_bl I q (by simp))
   | str j=>obtain ⟨t',rfl⟩:=ry; exact PySem.EqNone.eq_none_str (fin_bl I q (by simp))
   | _=>exact absurd (show false=true from hs) Bool.false_ne_true
 | bl i =>
   cases rx
   cases y with
   | non=>cases ry; exact PySem.EqNone.eq_bool_none (fin_bl I q (by simp))
   | bl j=>cases ry; exact eq_bool (fin_bl I q dec_bl)
   | str j=>obtain ⟨t',rfl⟩:=ry; exact PySem.EqMixed.eq_bool_str (fin_bl I q (by simp))
   | _=>exact absurd (show false=true from hs) Bool.false_ne_true
 | int i =>
   obtain ⟨t,rfl⟩:=rx
   cases y with
   | non=>cases ry; exact PySem.EqNone.eq_int_none (fin_bl I q (by simp))
   | int j=>obtain ⟨t',rfl⟩:=ry; exact eq_int (fin_bl I q dec_int)
   | str j=>obtain ⟨t',rfl⟩:=ry; exact PySem.EqMixed.eq_int_str (fin_bl I q (by simp))
   | _=>exact absurd (show false=true from hs) Bool.false_ne_true
 | str i =>
   obtain ⟨t,rfl⟩:=rx
   cases y with
   | non=>cases ry; exact PySem.EqNone.eq_str_none (fin_bl I q (by simp))
   | bl j=>cases ry; exact PySem.EqMixed.eq_str_bool (fin_bl I q (by simp))
   | int j=>obtain ⟨t',rfl⟩:=ry; exact PySem.EqMixed.eq_str_int (fin_bl I q (by simp))
   | str j=>obtain ⟨t',rfl⟩:=ry; exact eq_str (fin_bl I q dec_str)
   | _=>exact absurd (show false=true from hs) Bool.false_ne_true
 | byt i =>
   obtain ⟨t,rfl⟩:=rx
   cases y with
   | byt j=>obtain ⟨t',rfl⟩:=ry; exact PySem.W.eq_bytes (fin_bl I q dec_byt)
   | _=>exact absurd (show false=true from hs) Bool.false_ne_true
 | _=>cases y <;> exact absurd (show false=true from hs) Bool.false_ne_true
theorem op_ne:OpR X (compareOp .NotEq) rNe:=by
 intro pins s σ H x y v u Q I rx ry h;obtain ⟨hs,q⟩:=h
 cases x with
 | non =>
   cases rx
   cases y with
   | non=>cases ry; exact PySem.EqNone.ne_none_none (fin_bl I q (by simp))
   | bl j=>cases ry; exact PySem.EqNone.ne_none_bool (fin_bl I q (by simp))
   | int j=>obtain ⟨t',rfl⟩:=ry; exact PySem.EqNone.ne_none_int (fin_bl I q (by simp))
   | str j=>obtain ⟨t',rfl⟩:=ry; exact PySem.EqNone.ne_none_str (fin_bl I q (by simp))
   | _=>exact absurd (show false=true from hs) Bool.false_ne_true
 | bl i =>
   cases rx
   cases y with
   | non=>cases ry; exact PySem.EqNone.ne_bool_none (fin_bl I q (by simp))
   | bl j=>cases ry; exact ne_bool (fin_bl I q (congrArg not dec_bl))
   | str j=>obtain ⟨t',rfl⟩:=ry; exact PySem.EqMixed.ne_bool_str (fin_bl I q (by simp))
   | _=>exact absurd (show false=true from hs) Bool.false_ne_true
 | int i =>
   obtain ⟨t,rfl⟩:=rx
   cases y with
   | non=>cases ry; exact PySem.EqNone.ne_int_none (fin_bl I q (by simp))
   | int j=>obtain ⟨t',rfl⟩:=ry; exact ne_int (fin_bl I q (congrArg not dec_int))
   | str j=>obtain ⟨t',rfl⟩:=ry; exact PySem.EqMixed.ne_int_str (fin_bl I q (by simp))
   | _=>exact absurd (show false=true from hs) Bool.false_ne_true
 | str i =>
   obtain ⟨t,rfl⟩:=rx
   cases y with
   | non=>cases ry; exact PySem.EqNone.ne_str_none (fin_bl I q (by simp))
   | bl j=>cases ry; exact PySem.EqMixed.ne_str_bool (fin_bl I q (by simp))
   | int j=>obtain ⟨t',rfl⟩:=ry; exact PySem.EqMixed.ne_str_int (fin_bl I q (by simp))
   | str j=>obtain ⟨t',rfl⟩:=ry; exact ne_str (fin_bl I q (congrArg not dec_str))
   | _=>exact absurd (show false=true from hs) Bool.false_ne_true
 | byt i =>
   obtain ⟨t,rfl⟩:=rx
   cases y with
   | byt j=>obtain ⟨t',rfl⟩:=ry; exact PySem.W.ne_bytes (fin_bl I q (congrArg not dec_byt))
   | _=>exact absurd (show false=true from hs) Bool.false_ne_true
 | _=>cases y <;> exact absurd (show false=true from hs) Bool.false_ne_true
theorem op_lt:OpR X (compareOp .Lt) (rI0 fun i j=>.bl (decide (i < j))):=opB0 fun _ _ _ _ _ _ _ q=>lt_int q
theorem op_le:OpR X (compareOp .LtE) (rI0 fun i j=>.bl (decide (i≤j))):=opB0 fun _ _ _ _ _ _ _ q=>le_int q
theorem op_gt:OpR X (compareOp .Gt) (rI0 fun i j=>.bl (decide (j < i))):=opB0 fun _ _ _ _ _ _ _ q=>gt_int q
theorem nomark (b:Expr) {op:CmpOp} (h:op≠.In:=by decide) (h2:op≠.NotIn:=by decide):behindInMarks op b=false:=by
 have e1:(op == CmpOp.In)=false:=by cases op <;> first | rfl | exact absurd rfl h
 have e2:(op == CmpOp.NotIn)=false:=by cases op <;> first | rfl | exact absurd rfl h2
 cases b <;> simp [behindInMarks,e1,e2]
theorem pe_cmpR {op:CmpOp} {r:R2} (ho:OpR X (compareOp op) r) (ha:PE X a ta) (hb:PE X b tb) (hm:behindInMarks op b=false):PE X (.Compare a [op] [b] pos) (tOp r ta tb):=by
 intro pins s σ H Q I h;exact wpAny_Compare1 (binT ha hb I h fun v u s2 x y H2 I2 rx ry q=>ho pins s2 σ H2 x y v u Q I2 rx ry q) hm
noncomputable def tTest (t:TE):TT:=fun σ H Q=>t σ H fun x H'=>∃ k,x = .bl k∧Q k H'
theorem pt_cmpR {op:CmpOp} {r:R2} (ho:OpR X (compareOp op) r) (ha:PE X a ta) (hb:PE X b tb) (hm:behindInMarks op b=false):PT X (.Compare a [op] [b] pos) (tTest (tOp r ta tb)):=by
 intro pins s σ H Q I h
 refine wpAny_isTrue_Compare1 (thn (ha pins s σ H _ I h) fun v s1 ⟨x,H1,I1,r1,q1⟩=>thn (hb pins s1 σ H1 _ I1 q1) fun u s2 ⟨y,H2,I2,r2,q2⟩ =>
   thn (ho pins s2 σ H2 x y v u _ I2 r1 r2 q2) fun c s3 ⟨z,H3,I3,r3,k,e,q3⟩=>?_) hm
 subst e;cases r3;exact wpAny_truthy_bool ⟨H3,I3,q3⟩
noncomputable def tChain (r r':R2) (ta tb tc:TE):TE:=fun σ H Q=>ta σ H fun x H1=>tb σ H1 fun y H2=>r x y H2 fun z H3=>∃ k,z = .bl k ∧
 (if k=true then tc σ H3 fun w' H4=>r' y w' H4 Q else Q (.bl false) H3)
theorem pe_chain {op op':CmpOp} {r r':R2} (ho:OpR X (compareOp op) r) (ho':OpR X (compareOp op') r') (ha:PE X a ta) (hb:PE X b tb) (hc:PE X c tc)
   (hm:lastMarks [op,op'] [b,c]=false:=by with_unfolding_all rfl):PE X (.Compare a [op,op'] [b,c] pos) (tChain r r' ta tb tc):=by
 intro pins s σ H Q I h
 refine Compare_chain (thn (ha pins s σ H _ I h) fun v s1 ⟨x,H1,I1,r1,q1⟩=>chain_link (thn (hb pins s1 σ H1 _ I1 q1) fun u s2 ⟨y,H2,I2,r2,q2⟩ =>
   thn (ho pins s2 σ H2 x y v u _ I2 r1 r2 q2) fun d s3 ⟨z,H3,I3,r3,k,e,q3⟩=>?_)) hm
 subst e;cases r3;refine wpAny_truthy_bool ?_
 cases k with
 | false=>exact ite_ff ⟨.bl false,H3,I3,rfl,q3⟩
 | true=>exact ite_tt (chain_last (thn (hc pins s3 σ H3 _ I3 q3) fun w' s4 ⟨z',H4,I4,r4,q4⟩=>ho' pins s4 σ H4 y z' u w' Q I4 r2 r4 q4))
noncomputable def TruV (K:PySem.W.Frag) (x:V) (H:Hp) (k:Bool):Prop :=
 match x with
 | .non=>k=false
 | .bl b=>k=b
 | .int i=>k=(i != 0)
 | .str y=>y.length≤sizeLine∧k=((y.length:Int) != 0)
 | .byt y=>y.size≤sizeLine∧k=((y.size:Int) != 0)
 | .ref p=>(∃ xs,SqL K H p xs∧k = !xs.isEmpty)∨(∃ xs,SqT K H p xs∧k = !xs.isEmpty)∨∃ kvs,H p=some (.dK kvs)∧k = !kvs.isEmpty
 | _=>False
theorem isEmpty_kv {κ:Type} {kvs:List (κ × V)} {vs:List (κ × Value)} (r:KV kvs vs):(!vs.isEmpty) = !kvs.isEmpty:=by
 cases r <;> rfl
theorem isEmpty_of {xs:List V} {its:List Value} (r:Vals xs its):(!its.toArray.isEmpty) = !xs.isEmpty:=by
 cases r <;> simp
theorem line63:(sizeLine:Nat) < 2 ^ 63:=by rw [sizeLine_eq]; decide
theorem tru_ok:TruR X (fun x H Q=>∃ k,TruV X.K x H k∧Q k H):=by
 intro pins s σ H x v Q I rx h;obtain ⟨k,e,q⟩:=h;have hl:=line63;have hs:sizeLine=16777216:=sizeLine_eq
 cases x with
 | non =>
   cases rx;have e':k=false:=e;subst e'
   exact truthy_none ⟨H,I,q⟩
 | bl b =>
   cases rx;have e':k=b:=e;subst e'
   exact wpAny_truthy_bool ⟨H,I,q⟩
 | int i =>
   obtain ⟨t,rfl⟩:=rx;have e':k=(i != 0):=e;subst e'
   exact PySem.P.truthy_int ⟨H,I,q⟩
 | str y =>
   obtain ⟨t,rfl⟩:=rx;obtain ⟨hy,e'⟩:y.length≤sizeLine∧k=((y.length:Int) != 0):=e;subst e'
   exact PySem.P.truthy_str (by omega) ⟨H,I.tok _,q⟩
 | byt y =>
   obtain ⟨t,rfl⟩:=rx;obtain ⟨hy,e'⟩:y.size≤sizeLine∧k=((y.size:Int) != 0):=e;subst e'
   exact PySem.W.truthy_bytes (by omega) ⟨H,I.tok _,q⟩
 | ref p =>
   cases rx;have e':(∃ xs,SqL X.K H p xs∧k = !xs.isEmpty)∨(∃ xs,SqT X.K H p xs∧k = !xs.isEmpty)∨∃ kvs,H p=some (.dK kvs)∧k = !kvs.isEmpty:=e;rcases e' with ⟨xs,hx,e'⟩ | ⟨xs,hx,e'⟩ | ⟨kvs,hx,e'⟩
   · subst e';obtain ⟨its,r,pl,hz⟩:=I.list hx;have hlen:=r.length;exact wpAny_truthy_list pl.isList (by simp only [List.size_toArray]; omega) ⟨H,I.tok _,by rw [isEmpty_of r]; exact q⟩
   · subst e';obtain ⟨its,r,pl,hz⟩:=I.tuple hx;have hlen:=r.length;exact truthy_tuple pl (by simp only [List.size_toArray]; omega) ⟨H,I.tok _,by rw [isEmpty_of r]; exact q⟩
   · subst e';obtain ⟨hz,hS,vs,r,m⟩:kvs.length≤sizeLine∧(p == sysModules)=false∧∃ vs,KV kvs vs∧s.heap.DictOf (mixKind X.prog X.w) p vs:=I.hok p _ hx;have hlen:kvs.length=vs.length:=Paired.length r
     exact wpAny_truthy_dict hS m (by omega) ⟨H,I.tok _,by rw [isEmpty_kv r]; exact q⟩
 | _=>exact (show False from e).elim
theorem pt_truth (ha:PE X a ta) (he:∀ whole,isTrue a X.env whole=(do let v ← whole; standAt a.pos; holding [v] (truthy v))) :
   PT X a (fun σ H Q=>ta σ H fun x H'=>∃ k,TruV X.K x H' k∧Q k H'):=by
 intro pins s σ H Q I h;exact isTrue_plain (thn (ha pins s σ H _ I h) fun v s1 ⟨x,H1,I1,r1,q1⟩=>tru_ok pins s1 σ H1 x v Q I1 r1 q1) (he _)
theorem vals1 {x:V} {us:List Value} (r:Vals [x] us):∃ u,us=[u]∧RelV x u:=by
 cases r with
 | cons r1 r2=>cases r2; exact ⟨_,rfl,r1⟩
theorem call_ord:CallR X (.builtin "ord") (fun xs H Q=>∃ x,xs=[.str x]∧x.length=1∧Q (.int (x.cps.getD 0 0:Nat)) H):=by
 intro pins s σ H xs us Q I r h;obtain ⟨x,rfl,hz,q⟩:=h;obtain ⟨u,rfl,t,rfl⟩:=vals1 r;exact ord_of_one hz ⟨.int _,H,I.tok _,⟨_,rfl⟩,q⟩
end
end L2
namespace L2
open PySem PySem.Spec PyProof.Rows
structure ObjM (h:Heap) (x dx C:Addr) (mA:Str→Option Value):Prop where
 obj:h.get? x=some (PySem.W.instObj C dx)
 ns:h.Ns1 dx mA
 ne:dx≠x
theorem lookIn_ns {h:Heap} {dx:Addr} {mA:Str→Option Value} (n:h.Ns1 dx mA):∃ od,h.get? dx=some od∧∀ name,PySem.W.lookIn name od=some (mA name):=by
 obtain ⟨o,es,ep,ho,hd,hk,_,hm⟩:=n;refine ⟨o,ho,fun name=>?_⟩;have e:=hm name;unfold nsFind findBy at e;rw [← Array.find?_toList] at e;unfold PySem.W.lookIn;rw [hd];dsimp only;split
 · rename_i y q
   rw [q] at e;exact congrArg some e
 · rename_i q
   rw [q] at e
   have a:es.toList.any (·.refKey)=false:=by
     rw [List.any_eq_false];intro y hy;obtain ⟨z,t,hkey⟩:=hk y (Array.mem_toList_iff.mp hy);simp [DictEntry.refKey,hkey]
   have a':¬ es.toList.any (·.refKey)=true:=by rw [a]; exact Bool.false_ne_true
   rw [if_neg a'];exact congrArg some e
theorem ObjM.look {h:Heap} {x dx C:Addr} {mA:Str→Option Value} (I:ObjM h x dx C mA):∃ od,PySem.W.InstAt h x (PySem.W.instObj C dx) C (some od)∧∀ name,PySem.W.lookIn name od=some (mA name) :=
 let ⟨od,ho,hl⟩:=lookIn_ns I.ns
 ⟨od,⟨I.obj,rfl,rfl,ho⟩,hl⟩
section
variable {prog:Program} {w:World} {A:Around} {E:Value→Shared→Prop} {s:Shared} {K:PySem.W.Frag} {x dx C f:Addr} {mA:Str→Option Value} {name:Str} {v:Value}
theorem get_map {expr:Bool} {Q:Value→Shared→Prop} (X:K.In s.heap) (I:ObjM s.heap x dx C mA) (hg:PySem.W.plainGet K C name=true) (hh:PySem.W.hasDictIn K C=true)
   (ha:PySem.W.findIn K (.ref C) name=some none) (hv:mA name=some v) (hv':PySem.W.handedIn v=true) (h:Q v { s with toks:=s.toks+1 }) :
   wpAny (model prog w) A (getAttr (.ref x) name expr) Q E s:=by
 obtain ⟨od,J,hl⟩:=I.look;exact PySem.W.get_value X J (PySem.W.plainGet_of hg).1 (PySem.W.findObj_own hh ha rfl (by rw [hl,hv])) hv' h
theorem set_map {ns:List Str} {Q:Unit→Shared→Prop} (X:K.In s.heap) (I:ObjM s.heap x dx C mA)
   (hs:PySem.W.findIn K (.ref C) "__setattr__" = some (some (.builtin "object.__setattr__"))) (hp:PySem.W.plainOver K C=true) (ht:PySem.W.takerIn K C name=some none) (hh:PySem.W.hasDictIn K C=true)
   (hw:PySem.Within mA ns) (hsz:ns.length≤sizeLine)
   (h:∀ h',ObjM h' x dx C (fun y=>if y=name then some v else mA y)→Heap.SameBut dx s.heap h'→Q () { s with heap:=h',toks:=s.toks+2 }) :
   wpAny (model prog w) A (setAttr (.ref x) name v) Q E s:=by
 obtain ⟨od,J,hl⟩:=I.look;refine PySem.W.set_plain X J hs (PySem.W.osa_open (s:={ s with toks:=s.toks+1 }) (r:=none) X J hp ht fun b=>?_);obtain ⟨cd,hc,hd'⟩:=PySem.W.any_some hh;have hx:s.heap.get? x=some ⟨.ref C,some dx,.plain,#[]⟩:=I.obj;refine wpAny_bind (wpAny_pure (wpAny_bind (wpAny_bind (wpAny_loadPart hx (wpAny_bind (PySem.W.Looks.here (s:={ s with toks:=s.toks+1 }) (PySem.W.looks_clsIn X hc) ?_))))));rw [hd'];refine wpAny_pure (a:=some dx) (wpAny_bind (wpAny_pure (wpAny_bind ?_)));refine wpAny_nsSet1 (s:={ s with toks:=s.toks+1 }) I.ns fun h' hn2 hs2=>?_;obtain ⟨oD,esD,epD,hoD,hdD,hcD⟩:=hn2.count (PySem.Within.cons name v hw);refine wpAny_bind (wpAny_lookBehind hoD (by rw [hdD]; exact pastItsLine_dict (Nat.le_trans hcD (by rw [List.length_cons]; omega))) ?_);exact wpAny_pure (h _ ⟨(hs2.2 _ (Ne.symm I.ne)).trans I.obj,hn2,I.ne⟩ hs2)
theorem make_map {R:Result→Shared→Prop} {vs:List Value} {kw:List (Str × Value)} (X:K.In s.heap) (hm:PySem.W.makesIn K C=true)
   (hi:PySem.W.findIn K (.ref C) "__init__" = some (some (.ref f))) (hf:PySem.W.typeIn K (.ref f)=some (.type "function"))
   (h:codeAny (model prog w) (A.under (.builtin "type.__call__" ⟨.ref C :: vs,kw⟩)) (.call (.ref f) ⟨.ref (s.heap.objs.size+1) :: vs,kw⟩) (PySem.W.InitBack (s.heap.objs.size+1) R)
     { s with heap:=(s.heap.push PySem.W.emptyDict).push (PySem.W.instObj C s.heap.objs.size) }) :
   codeAny (model prog w) A (.call (.ref C) ⟨vs,kw⟩) R s:=by
 obtain ⟨hh,g,d,t,os⟩:=s;exact PySem.W.make_core (PySem.W.makes_of X hm) (PySem.W.looks_findIn X hi) (fun self=>PySem.W.bind_fn X self hf) (.inl rfl) h
end
noncomputable def putF (f:Str) (v:V):List (Str × V)→List (Str × V)
 | []=>[(f,v)]
 | (g,x) :: r=>if g=f then (g,v) :: r else (g,x) :: putF f v r
theorem lookup_putF (f g:Str) (v:V):∀ fs:List (Str × V),(putF f v fs).lookup g=if g=f then some v else fs.lookup g
 | []=>by
   show List.lookup g [(f,v)]=_;by_cases h:g=f
   · have hb:(g == f)=true:=beq_iff_eq.mpr h;simp only [List.lookup,hb,if_pos h]
   · have hb:(g == f)=false:=beq_eq_false_iff_ne.mpr h
     simp only [List.lookup,hb,if_neg h]
 | (k,x) :: r=>by
   have ih:=lookup_putF f g v r;rw [show putF f v ((k,x) :: r)=(if k=f then (k,v) :: r else (k,x) :: putF f v r) from rfl];by_cases hk:k=f
   · rw [if_pos hk];by_cases h:g=k
     · have hb:(g == k)=true:=beq_iff_eq.mpr h;simp only [List.lookup,hb,if_pos (h.trans hk)]
     · have hb:(g == k)=false:=beq_eq_false_iff_ne.mpr h;simp only [List.lookup,hb,if_neg (fun e:g=f=>h (e.trans hk.symm))]
   · rw [if_neg hk];by_cases h:g=k
     · have hb:(g == k)=true:=beq_iff_eq.mpr h;simp only [List.lookup,hb,if_neg (fun e:g=f=>hk (h.symm.trans e))]
     · have hb:(g == k)=false:=beq_eq_false_iff_ne.mpr h;simp only [List.lookup,hb];exact ih
theorem keys_putF (f:Str) (v:V):∀ fs:List (Str × V),f∈(putF f v fs).map (·.1)∧∀ g,g∈fs.map (·.1)→g∈(putF f v fs).map (·.1)
 | []=>⟨by simp [putF],fun g h=>by simp at h⟩
 | (k,x) :: r=>by
   obtain ⟨i1,i2⟩:=keys_putF f v r;rw [show putF f v ((k,x) :: r)=(if k=f then (k,v) :: r else (k,x) :: putF f v r) from rfl];by_cases hk:k=f
   · rw [if_pos hk];subst hk;exact ⟨by simp,fun g h=>by simpa using h⟩
   · rw [if_neg hk];refine ⟨?_,fun g h=>?_⟩
     · rw [List.map_cons];exact List.mem_cons_of_mem _ i1
     · rw [List.map_cons] at h ⊢;rcases List.mem_cons.mp h with e | e
       · exact List.mem_cons.mpr (.inl e)
       · exact List.mem_cons_of_mem _ (i2 g e)
theorem length_putF (f:Str) (v:V):∀ fs:List (Str × V),(putF f v fs).length≤fs.length+1
 | []=>by simp [putF]
 | (k,x) :: r=>by
   have ih:=length_putF f v r;rw [show putF f v ((k,x) :: r)=(if k=f then (k,v) :: r else (k,x) :: putF f v r) from rfl];by_cases hk:k=f
   · rw [if_pos hk,List.length_cons,List.length_cons]; omega
   · rw [if_neg hk,List.length_cons,List.length_cons]; omega
theorem RelO.some_of {v:V} {o:Option Value} (r:RelO (some v) o):∃ u,o=some u∧RelV v u:=by
 cases o with
 | none=>exact (show False from r).elim
 | some u=>exact ⟨u,rfl,r⟩
theorem handed_of {v:V} {u:Value} (r:RelV v u):PySem.W.handedIn u=true:=by
 cases v with
 | non=>cases (show u=Value.none from r); rfl
 | bl b=>cases (show u=Value.bool b from r); rfl
 | int i=>obtain ⟨t,e⟩:=(show ∃ t,u=Value.int i t from r); cases e; rfl
 | str x=>obtain ⟨t,e⟩:=(show ∃ t,u=Value.str x t from r); cases e; rfl
 | byt b=>obtain ⟨t,e⟩:=(show ∃ t,u=Value.bytes b t from r); cases e; rfl
 | flt b=>obtain ⟨t,e⟩:=(show ∃ t,u=Value.float b t from r); cases e; rfl
 | ref a=>cases (show u=Value.ref a from r); rfl
 | ty n=>cases (show u=Value.type n from r); rfl
section
variable {P:Program} {w:World} {H H':Hp} {h h':Heap} {a C dx:Addr} {fs fs':List (Str × V)}
theorem ins_get (hok:HOk P w H h) (e:H a=some (.ins C dx fs)):∃ mA,ObjM h a dx C mA∧(∀ f,RelO (fs.lookup f) (mA f))∧PySem.Within mA (fs.map (·.1))∧fs.length≤1000∧H dx=some (.own a):=by
 obtain ⟨d,z,ne,ob,mA,n,r,q⟩:=(show ObjOk P w H h a (.ins C dx fs) from hok a _ e);exact ⟨mA,⟨ob,n,ne⟩,r,q,z,d⟩
end
structure Cls (K:PySem.W.Frag) (C:Addr):Prop where
 pg:PySem.W.plainGet K C Str.empty=true
 hd:PySem.W.hasDictIn K C=true
 po:PySem.W.plainOver K C=true
 sa:PySem.W.findIn K (.ref C) "__setattr__" = some (some (.builtin "object.__setattr__"))
theorem Cls.get {K:PySem.W.Frag} {C:Addr} (c:Cls K C) (f:Str):PySem.W.plainGet K C f=true:=c.pg
noncomputable def NoAttr (K:PySem.W.Frag) (C:Addr) (f:Str):Prop:=PySem.W.findIn K (.ref C) f=some none
theorem NoAttr.taker {K:PySem.W.Frag} {C:Addr} {f:Str} (n:NoAttr K C f):PySem.W.takerIn K C f=some none:=by
 unfold PySem.W.takerIn;rw [show PySem.W.findIn K (.ref C) f=some none from n];rfl
section
variable {X:Cx} {pins:List (Addr × Obj)} {σ:St} {H:Hp} {s:Shared} {a C dx:Addr} {fs:List (Str × V)} {f:Str} {v:V} {A:Around} {E:Value→Shared→Prop}
theorem getattr_ok {b:Bool} {Q:Value→Shared→Prop} (I:Inv X pins σ H s) (e:H a=some (.ins C dx fs)) (c:Cls X.K C) (n:NoAttr X.K C f) (l:fs.lookup f=some v)
   (h:∀ u s',Inv X pins σ H s'→RelV v u→Q u s'):wpAny (model X.prog X.w) A (getAttr (.ref a) f b) Q E s:=by
 obtain ⟨mA,O,r,_,_,_⟩:=ins_get I.hok e;obtain ⟨u,hu,ru⟩:=RelO.some_of (v:=v) (o:=mA f) (by rw [← l]; exact r f);exact get_map I.kIn O (c.get f) c.hd n hu (handed_of ru) (h u _ (I.tok _) ru)
theorem setattr_ok {y:V} {u:Value} {Q:Unit→Shared→Prop} (I:Inv X pins σ H s) (e:H a=some (.ins C dx fs)) (c:Cls X.K C) (n:NoAttr X.K C f) (hl:fs.length < 1000) (ry:RelV y u)
   (h:∀ s',Inv X pins σ (upd H a (.ins C dx (putF f y fs))) s'→Q () s'):wpAny (model X.prog X.w) A (setAttr (.ref a) f u) Q E s:=by
 obtain ⟨mA,O,r,wi,_,ho⟩:=ins_get I.hok e;have hz:(fs.map (·.1)).length≤sizeLine:=by rw [List.length_map,sizeLine_eq]; omega
 refine set_map I.kIn O c.sa c.po n.taker c.hd wi hz fun h' O' sb=>h _ ?_;have hd:∃ o,h'.get? dx=some o:=let ⟨o,_,_,e',_⟩:=O'.ns; ⟨o,e'⟩
 refine I.write (x:=a) (e:=dx) (by rw [e]; exact True.intro) (.inr ho) (fun b q hb z=>(sb.2 b hb).trans z) hd ?_;refine ⟨by rw [upd_ne O.ne]; exact ho,?_,O.ne,O'.obj,_,O'.ns,fun g=>?_,fun g hg=>?_⟩
 · have:=length_putF f y fs; omega
 · show RelO ((putF f y fs).lookup g) (if g=f then some u else mA g);rw [lookup_putF];by_cases q:g=f
   · rw [if_pos q,if_pos q]; exact ry
   · rw [if_neg q,if_neg q]; exact r g
 · by_cases q:g=f
   · rw [q]; exact (keys_putF f y fs).1
   · refine (keys_putF f y fs).2 g (wi g fun z=>hg ?_);show (if g=f then some u else mA g)=none;rw [if_neg q]; exact z
theorem Inv.made (I:Inv X pins σ H s):Inv X pins σ (upd (upd H s.heap.objs.size (.own (s.heap.objs.size+1))) (s.heap.objs.size+1) (.ins C s.heap.objs.size []))
   { s with heap:=(s.heap.push PySem.W.emptyDict).push (PySem.W.instObj C s.heap.objs.size) }:=by
 have e1:(s.heap.push PySem.W.emptyDict).get? s.heap.objs.size=some PySem.W.emptyDict:=Heap.get?_push_size s.heap rfl
 have e2:((s.heap.push PySem.W.emptyDict).push (PySem.W.instObj C s.heap.objs.size)).get? (s.heap.objs.size+1)=some (PySem.W.instObj C s.heap.objs.size):=by
   have:=Heap.get?_push_size (s.heap.push PySem.W.emptyDict) (o:=PySem.W.instObj C s.heap.objs.size) rfl
   rwa [Heap.size_push] at this
 have e3:(s.heap.push PySem.W.emptyDict).Ns s.heap.objs.size (fun _=>none):=⟨PySem.W.emptyDict,#[],_,e1,rfl,(fun e he=>absurd he (by simp)),fun _=>rfl⟩;have I1:=I.laid (a:=s.heap.objs.size) (o:=.own (s.heap.objs.size+1)) (h':=s.heap.push PySem.W.emptyDict) (t':=s.toks) (fun b u q=>Heap.get?_push_of_some _ q) (Nat.le_refl _) ⟨_,e1⟩;refine I1.laid (a:=s.heap.objs.size+1) (o:=.ins C s.heap.objs.size []) (t':=s.toks) (fun b u q=>Heap.get?_push_of_some _ q) (Nat.le_of_eq (Heap.size_push _ _)) ?_;have ne:s.heap.objs.size≠s.heap.objs.size+1:=Nat.ne_of_lt (Nat.lt_succ_self _);refine ⟨by rw [upd_ne ne,upd_same],Nat.zero_le _,ne,e2,fun _=>none,(Heap.Ns1.of_empty e3).at fun o q=>Heap.get?_push_of_some _ q,fun _=>True.intro,fun y hy=>absurd rfl hy⟩
theorem attr_of {prog:Program} {w:World} {env:Env} {e:Expr} {f:Str} {pos:Pos} {s:Shared} {Q:Value→Shared→Prop} (hb:attributeBase e f env (eval e env)=eval e env)
   (h:wpAny (model prog w) A (eval e env) (fun o s₁=>wpAny (model prog w) A (getAttr o f true) Q E s₁) E s):wpAny (model prog w) A (eval (.Attribute e f pos) env) Q E s :=
 Attribute_any_ h (by rw [arm_eval_Attribute,hb])
end
noncomputable def tFld (K:PySem.W.Frag) (ta:TE) (f:Str):TE:=fun σ H Q=>ta σ H fun x H1=>∃ a C dx fs v,x = .ref a∧H1 a=some (.ins C dx fs)∧Cls K C∧NoAttr K C f∧fs.lookup f=some v∧Q v H1
noncomputable def sFld (K:PySem.W.Frag) (ta tv:TE) (f:Str):TS:=fun D σ H=>tv σ H fun y H1=>ta σ H1 fun x H2=>∃ a C dx fs,x = .ref a∧H2 a=some (.ins C dx fs)∧Cls K C∧NoAttr K C f∧fs.length < 1000 ∧
 D.nx σ (upd H2 a (.ins C dx (putF f y fs)))
noncomputable def InOp (X:Cx) (op:Operator) (rd:V→V→Hp→VK→Prop):Prop :=
 ∀ (pins:List (Addr × Obj)) (s:Shared) (σ:St) (H:Hp) (x y:V) (u v:Value) (Q:VK),Inv X pins σ H s→RelV x u→RelV y v→rd x y H Q→wpAny (model X.prog X.w) X.A (inplaceOp op u v) (EP X pins σ Q) X.xe s
noncomputable def sFldAug (K:PySem.W.Frag) (ta tv:TE) (rd:V→V→Hp→VK→Prop) (f:Str):TS:=fun D σ H=>ta σ H fun x H1=>∃ a C dx fs v,x = .ref a∧H1 a=some (.ins C dx fs)∧Cls K C∧NoAttr K C f∧fs.lookup f=some v ∧
 tv σ H1 fun y H2=>rd v y H2 fun z H3=>∃ dx' fs',H3 a=some (.ins C dx' fs')∧fs'.length < 1000∧D.nx σ (upd H3 a (.ins C dx' (putF f z fs')))
section
variable {X:Cx} {o e value:Expr} {f:Str} {pos pos' tpos:Pos} {ta tv:TE}
theorem pe_fld (he:PE X e ta) (hb:attributeBase e f X.env (eval e X.env)=eval e X.env):PE X (.Attribute e f pos) (tFld X.K ta f):=by
 intro pins s σ H Q I h;refine attr_of hb (thn (he pins s σ H _ I h) fun u s1 ⟨x,H1,I1,rx,a,C,dx,fs,v,ex,ea,c,n,l,q⟩=>?_);subst ex;obtain rfl:u=Value.ref a:=rx;exact getattr_ok I1 ea c n l fun u' s2 I2 ru=>⟨v,H1,I2,ru,q⟩
theorem ps_fld (ha:PE X o ta) (hv:PE X value tv) (hs:swapsWith value (some (.Attribute o f pos')) pos.line X.env=pure false):PS X (.Assign [.Attribute o f pos'] value pos) (sFld X.K ta tv f):=by
 intro pins s σ H D I h;refine plainObj_wpAny_Assign_Attribute (thn (hv pins s σ H _ I h) fun u s1 ⟨y,H1,I1,ry,q⟩=>thn (ha pins s1 σ H1 _ I1 q) fun ov s2 ⟨x,H2,I2,rx,a,C,dx,fs,ex,ea,c,n,l,q2⟩=>?_) hs;subst ex;obtain rfl:ov=Value.ref a:=rx;exact setattr_ok I2 ea c n l ry fun s3 I3=>⟨σ,_,I3,q2⟩
theorem ps_fldaug {op:Operator} {rd:V→V→Hp→VK→Prop} (ha:PE X o ta) (hv:PE X value tv) (hop:InOp X op rd):PS X (.AugAssign (.Attribute o f tpos) op value pos) (sFldAug X.K ta tv rd f):=by
 intro pins s σ H D I h;refine wpAny_AugAssign_AttributeAny (thn (ha pins s σ H _ I h) fun ov s1 ⟨x,H1,I1,rx,a,C,dx,fs,v,ex,ea,c,n,l,q⟩=>?_);subst ex;obtain rfl:ov=Value.ref a:=rx;refine getattr_ok I1 ea c n l fun u s2 I2 ru=>thn (hv pins s2 σ H1 _ I2 q) fun w3 s3 ⟨y,H2,I3,ry,q3⟩=>thn (hop pins s3 σ H2 v y u w3 _ I3 ru ry q3) fun w4 s4 ⟨z,H3,I4,rz,dx',fs',ea',l',q4⟩=>?_;exact setattr_ok I4 ea' c n l' rz fun s5 I5=>⟨σ,_,I5,q4⟩
noncomputable def rAdd:V→V→Hp→VK→Prop:=fun x y H Q=>∃ i j,x = .int i∧y = .int j∧Q (.int (i+j)) H
theorem in_add:InOp X .Add rAdd:=by
 rintro pins s σ H x y u v Q I rx ry ⟨i,j,rfl,rfl,q⟩;obtain ⟨t,rfl⟩:=(show ∃ t,u=Value.int i t from rx);obtain ⟨t',rfl⟩:=(show ∃ t',v=Value.int j t' from ry);exact PyProof.Rows.iadd_int ⟨.int (i+j),H,I.tok _,⟨_,rfl⟩,q⟩
end
section
variable {X:Cx} {pins:List (Addr × Obj)} {σ:St} {H:Hp} {s:Shared} {A:Around} {E:Value→Shared→Prop} {Q:Value→Shared→Prop} {c:Value} {b:Bool}
end
end L2
namespace L2
open PySem PySem.Spec PyProof.Rows
structure Room (k:Nat) (A:Around):Prop where
 hd:A.handled=none
 dp:A.depth+3*k+5 < recursionLimit
 un:A.units+16*k+200 < cLine
theorem Room.mono {j k:Nat} {A:Around} (r:Room k A) (h:j≤k):Room j A:=⟨r.hd,by have:=r.dp; omega,by have:=r.un; omega⟩
theorem Room.deeper {k:Nat} {A:Around} (r:Room (k+1) A) (env:Env):Room k (A.deeper env) :=
 ⟨r.hd,by have:=r.dp; show A.depth+1+3*k+5 < _; omega,by have:=r.un; show A.units+3+16*k+200 < _; omega⟩
theorem Room.in1 {k:Nat} {A:Around} (r:Room (k+1) A):Room k A.in1 :=
 ⟨r.hd,by have:=r.dp; show A.depth+3*k+5 < _; omega,by have:=r.un; show A.units+1+16*k+200 < _; omega⟩
theorem make_depth {A:Around} {C:Addr} {us:List Value} {kw:List (Str × Value)}:(A.under (.builtin "type.__call__" ⟨.ref C :: us,kw⟩)).depth=A.depth+1:=by
 first | rfl | simp [Around.under,Code.weight,Code.isCreation,Code.isGuard,Code.isCaller,Code.frames,Code.isFrame,guardIds]
theorem make_units {A:Around} {C:Addr} {us:List Value} {kw:List (Str × Value)}:(A.under (.builtin "type.__call__" ⟨.ref C :: us,kw⟩)).units=A.units+1:=by
 first | rfl | simp [Around.under,Code.cUnits,Code.frames,Code.isFrame]
theorem Room.make {k:Nat} {A:Around} (r:Room (k+1) A) (C:Addr) (us:List Value) (kw:List (Str × Value)):Room k (A.under (.builtin "type.__call__" ⟨.ref C :: us,kw⟩)) :=
 ⟨r.hd,by have:=r.dp; rw [make_depth]; omega,by have:=r.un; rw [make_units]; omega⟩
theorem Room.depth {k:Nat} {A:Around} (r:Room k A):A.depth < recursionLimit:=by have:=r.dp; omega
theorem Room.units {k:Nat} {A:Around} (r:Room k A):A.units+64 < cLine:=by have:=r.un; omega
noncomputable def tNil:TA:=fun _ H Q=>Q [] H
noncomputable def tCons (ta:TE) (tr:TA):TA:=fun σ H Q=>ta σ H fun x H1=>tr σ H1 fun xs H2=>Q (x :: xs) H2
section
variable {X:Cx} {e:Expr} {es:List Expr} {te:TE} {t:TA} {pos:Pos}
theorem pa_nil:PA X [] tNil:=fun _ _ _ _ H Q I h=>Calls.spliced_nil ⟨[],H,I,.nil,h⟩
theorem pa_cons (ha:PE X e te) (hr:PA X es t) (hs:starEach (e :: es) X.env=(false,eval e X.env) :: starEach es X.env:=by rfl):PA X (e :: es) (tCons te t):=by
 intro pos pins s σ H Q I h;rw [hs];show wpAny _ _ (spliced ((false,eval e X.env) :: backTo pos (starEach es X.env))) _ _ s;refine Calls.spliced_cons (thn (ha pins s σ H _ I h) fun u s1 ⟨x,H1,I1,r1,q1⟩=>?_);exact thn (hr pos pins s1 σ H1 _ I1 q1) fun us s2 ⟨xs,H2,I2,r2,q2⟩=>⟨x :: xs,H2,I2,.cons r1 r2,q2⟩
noncomputable def tTup (t:TA):TE:=fun σ H Q=>t σ H fun xs H1=>xs.length≤sizeLine∧∀ p,H1 p=none→Q (.ref p) (upd H1 p (.tup xs))
noncomputable def tLst (t:TA):TE:=fun σ H Q=>t σ H fun xs H1=>xs.length≤sizeLine∧∀ p,H1 p=none→Q (.ref p) (upd H1 p (.lst xs))
theorem pe_tup {x1} (h:PA X es t):PE X (.Tuple es x1 pos) (tTup t):=by
 intro pins s σ H Q I hq;refine wpAny_Tuple_spliced (thn (h pos pins s σ H _ I hq) fun us s1 ⟨xs,H1,I1,r,z,q⟩=>⟨by rw [← r.length]; exact z,?_⟩);have hf:H1 s1.heap.objs.size=none:=I1.hok.fresh (Nat.le_refl _);refine ⟨.ref s1.heap.objs.size,upd H1 s1.heap.objs.size (.tup xs),I1.laid (t':=s1.toks) (fun b u e=>Heap.get?_push_of_some _ e) (Nat.le_refl _) ?_,rfl,q _ hf⟩;exact ⟨z,us,r,⟨_,Heap.get?_push_size _ rfl,rfl,_,rfl⟩⟩
theorem pe_lst (h:PA X es t):PE X (.List es pos) (tLst t):=by
 intro pins s σ H Q I hq;refine wpAny_List_spliced (thn (h pos pins s σ H _ I hq) fun us s1 ⟨xs,H1,I1,r,z,q⟩=>⟨by rw [← r.length]; exact z,?_⟩);have hf:H1 s1.heap.objs.size=none:=I1.hok.fresh (Nat.le_refl _);refine ⟨.ref s1.heap.objs.size,upd H1 s1.heap.objs.size (.lst xs),I1.laid (t':=s1.toks) (fun b u e=>Heap.get?_push_of_some _ e) (Nat.le_refl _) ?_,rfl,q _ hf⟩;exact ⟨z,us,0,r,Heap.get?_push_size _ rfl⟩
end
noncomputable abbrev Sp:=List V→Hp→VK→XK→Prop
noncomputable abbrev CXT:=List Env→Hp→Shared→XK→Value→Shared→Prop
structure Env0 (P:Program) (w:World) (K:PySem.W.Frag) (mg:Str→Option Value) (base:Heap) (A:Around) (outer:List Env) (s:Shared) (H:Hp):Prop where
 frames:A.frames=some outer
 mod:Mod K mg base
 bs:∀ b o,base.get? b=some o→s.heap.get? b=some o∧H b=none
 bsz:base.objs.size≤s.heap.objs.size
 funs:s.heap.FunFrames base outer
 frf:∀ b∈frs outer,H b=none
 hok:HOk P w H s.heap
 bare:AllBare s.gens
noncomputable def CE (outer:List Env) (P:Program) (w:World) (H:Hp) (s:Shared) (Q:VK) (u:Value) (s':Shared):Prop :=
 ∃ v H',s'.os=s.os∧AllBare s'.gens∧Un (frs outer) [] H H' s.heap s'.heap∧HOk P w H' s'.heap∧RelV v u∧Q v H'
noncomputable def CR (CX:CXT) (outer:List Env) (P:Program) (w:World) (H:Hp) (s:Shared) (Q:VK) (E:XK) (r:Result) (s':Shared):Prop :=
 match r with
 | .ok (.ret u)=>CE outer P w H s Q u s'
 | .ok _=>False
 | .error e=>CX outer H s E e s'
structure FnOk (P:Program) (w:World) (K:PySem.W.Frag) (mg:Str→Option Value) (base:Heap) (CX:CXT) (k:Nat) (f:Addr) (fd:FuncData) (ps:List Str) (sp:Sp):Prop where
 len:∀ vs H Q E,sp vs H Q E→vs.length=ps.length
 run:∀ (A:Around) (outer:List Env) (s:Shared) (H:Hp) (args:Args) (us:List Value) (vs:List V) (Q:VK) (E:XK),Room k A→Env0 P w K mg base A outer s H→BindsTo s fd args (ps.zip us)→Vals vs us→sp vs H Q E →
   codeAny (model P w) A (.call (.ref f) args) (CR CX outer P w H s Q E) s
theorem FnOk.mono {P:Program} {w:World} {K:PySem.W.Frag} {mg:Str→Option Value} {base:Heap} {CX:CXT} {j k:Nat} {f:Addr} {fd:FuncData} {ps:List Str} {sp:Sp} (F:FnOk P w K mg base CX j f fd ps sp) (h:j≤k) :
   FnOk P w K mg base CX k f fd ps sp:=⟨F.len,fun A outer s H args us vs Q E hr=>F.run A outer s H args us vs Q E (hr.mono h)⟩
theorem FnOk.imp {P:Program} {w:World} {K:PySem.W.Frag} {mg:Str→Option Value} {base:Heap} {CX:CXT} {k:Nat} {f:Addr} {fd:FuncData} {ps:List Str} {sp sp':Sp} (F:FnOk P w K mg base CX k f fd ps sp)
   (h:∀ vs H Q E,sp' vs H Q E→sp vs H Q E):FnOk P w K mg base CX k f fd ps sp' :=
 ⟨fun vs H Q E q=>F.len vs H Q E (h _ _ _ _ q),fun A outer s H args us vs Q E hr he hb hv hs=>F.run A outer s H args us vs Q E hr he hb hv (h _ _ _ _ hs)⟩
theorem Env0.make {P:Program} {w:World} {K:PySem.W.Frag} {mg:Str→Option Value} {base:Heap} {A:Around} {outer:List Env} {s:Shared} {H:Hp} (e:Env0 P w K mg base A outer s H) (C:Addr) (us:List Value) (kw:List (Str × Value)) :
   Env0 P w K mg base (A.under (.builtin "type.__call__" ⟨.ref C :: us,kw⟩)) outer s H:=⟨by first | exact e.frames | (simpa [Around.under,Code.envs,Code.isFrame,pushEnvs] using e.frames),e.mod,e.bs,e.bsz,e.funs,e.frf,e.hok,e.bare⟩
theorem Env0.in1 {P:Program} {w:World} {K:PySem.W.Frag} {mg:Str→Option Value} {base:Heap} {A:Around} {outer:List Env} {s:Shared} {H:Hp} (e:Env0 P w K mg base A outer s H) :
   Env0 P w K mg base A.in1 outer s H:=⟨e.frames,e.mod,e.bs,e.bsz,e.funs,e.frf,e.hok,e.bare⟩
section
variable {X:Cx} {pins:List (Addr × Obj)} {σ:St} {H:Hp} {s s':Shared}
theorem Inv.env0 (I:Inv X pins σ H s):Env0 X.prog X.w X.K X.mg X.base X.A X.stack s H :=
 ⟨I.ok.frames,I.ok.mod,I.bs,Nat.le_trans I.ok.bsz I.sz,I.stack,I.stkFree,I.hok,I.bare⟩
theorem Inv.after {Q:VK} {u:Value} (I:Inv X pins σ H s) (h:CE X.stack X.prog X.w H s Q u s'):EP X pins σ Q u s':=by
 obtain ⟨v,H',os,bare,un,hok,r,q⟩:=h;obtain ⟨hh,g,d,t,os'⟩:=s';obtain rfl:os'=s.os:=os;exact ⟨v,H',I.call (h':=hh) (g':=g) (d':=d) (t':=t) (ch:=[]) un hok bare (fun b z=>absurd z (by simp)),r,q⟩
end
noncomputable def tCall (sp:Sp) (dvs:List V) (E:XK) (t:TA):TE:=fun σ H Q=>t σ H fun vs H1=>sp (vs++dvs) H1 Q E
noncomputable def tMake (C:Addr) (sp:Sp) (dvs:List V) (E:XK) (t:TA):TE:=fun σ H Q=>t σ H fun vs H1=>∀ x dx,H1 x=none→H1 dx=none→dx≠x →
 sp (.ref x :: (vs++dvs)) (upd (upd H1 dx (.own x)) x (.ins C dx [])) (fun v H2=>v = .non∧Q (.ref x) H2) E
noncomputable def Binds (K:PySem.W.Frag) (fd:FuncData) (ps:List Str) (ds:List Value):Prop :=
 ∀ (s:Shared) (us:List Value),K.In s.heap→(us++ds).length=ps.length→BindsTo s fd ⟨us,[]⟩ (ps.zip (us++ds))
theorem Binds.all {K:PySem.W.Frag} {fd:FuncData} {ps:List Str} (h:∀ us:List Value,us.length=ps.length→bindArgs fd ⟨us,[]⟩=pure (ps.zip us)):Binds K fd ps []:=fun s us _ hl=>by
 rw [List.append_nil] at hl ⊢;exact .of_eq (h us hl)
noncomputable def Passes (CX:CXT) (X:Cx) (E:XK):Prop:=∀ (pins:List (Addr × Obj)) (σ:St) (H:Hp) (s:Shared) (e:Value) (s':Shared),Inv X pins σ H s→CX X.stack H s E e s'→X.xe e s'
section
variable {X:Cx} {CX:CXT} {k:Nat} {f C:Addr} {fd:FuncData} {ps:List Str} {sp:Sp} {dvs:List V} {ds:List Value} {E:XK} {x m:Str} {p pos apos:Pos} {e o:Expr} {es:List Expr} {ta:TE} {t:TA}
theorem run_fn {pins:List (Addr × Obj)} {σ:St} {H:Hp} {s:Shared} {Q:VK} {us:List Value} {vs:List V} (F:FnOk X.prog X.w X.K X.mg X.base CX k f fd ps sp) (hr:Room k X.A) (hb:Binds X.K fd ps ds) (hd:Vals dvs ds) (hx:Passes CX X E)
   (I:Inv X pins σ H s) (r:Vals vs us) (h:sp (vs++dvs) H Q E):wpAny (model X.prog X.w) X.A (call (.ref f) us) (EP X pins σ Q) X.xe s:=by
 have r2:Vals (vs++dvs) (us++ds):=r.append hd;have hl:(us++ds).length=ps.length:=by rw [← r2.length]; exact F.len _ _ _ _ h
 refine wpAny_call (codeAny_mono (F.run X.A X.stack s H ⟨us,[]⟩ (us++ds) (vs++dvs) Q E hr I.env0 (hb s us I.kIn hl) r2 h) fun r s' hq=>?_)
 cases r with
 | error e=>exact hx pins σ H s e s' I hq
 | ok fl =>
   cases fl with
   | ret u=>exact I.after hq
   | next=>exact False.elim hq
   | brk=>exact False.elim hq
   | cont=>exact False.elim hq
theorem pe_call (F:FnOk X.prog X.w X.K X.mg X.base CX k f fd ps sp) (hr:Room k X.A) (hg:Gl X x) (hm:X.mg x=some (.ref f)) (hk:PySem.W.keepIn X.K (.ref f)=true) (hb:Binds X.K fd ps ds) (hd:Vals dvs ds) (hx:Passes CX X E)
   (ha:PA X (e :: es) t) (hdb:(x == ("__debug__" : Str))=false:=by decide) (he:starEach (e :: es) X.env=(false,eval e X.env) :: starEach es X.env:=by rfl) (hpl:(backTo pos (starEach es X.env)).any (·.1)=false:=by rfl) :
   PE X (.Call (.Name x p) (e :: es) [] pos) (tCall sp dvs E t):=by
 intro pins s σ H Q I h;refine wpAny_Call_Name_kw (ld_glob I hg hm ?_ hdb);refine PySem.W.callWith_K (h₀:=X.base) I.ok.mod.kin hk (thn (ha pos pins s σ H _ I h) fun us s1 ⟨vs,H1,I1,r,q⟩=>⟨I1.kIn,?_⟩) he hpl;exact run_fn F hr hb hd hx I1 r q
structure Mk (K:PySem.W.Frag) (C f:Addr):Prop where
 makes:PySem.W.makesIn K C=true
 init:PySem.W.findIn K (.ref C) "__init__" = some (some (.ref f))
 fn:PySem.W.isFn K (.ref f)=true
 kp:PySem.W.keepIn K (.ref C)=true
theorem run_make {pins:List (Addr × Obj)} {σ:St} {H:Hp} {s:Shared} {Q:VK} {us:List Value} {vs:List V} (M:Mk X.K C f) (F:FnOk X.prog X.w X.K X.mg X.base CX k f fd ps sp) (hr:Room (k+1) X.A) (hb:Binds X.K fd ps ds) (hd:Vals dvs ds)
   (hx:Passes CX X E) (I:Inv X pins σ H s) (r:Vals vs us)
   (h:∀ x dx,H x=none→H dx=none→dx≠x→sp (.ref x :: (vs++dvs)) (upd (upd H dx (.own x)) x (.ins C dx [])) (fun v H2=>v = .non∧Q (.ref x) H2) E) :
   wpAny (model X.prog X.w) X.A (call (.ref C) us) (EP X pins σ Q) X.xe s:=by
 have hq:=h (s.heap.objs.size+1) s.heap.objs.size (I.hok.fresh (Nat.le_succ _)) (I.hok.fresh (Nat.le_refl _)) (Nat.ne_of_lt (Nat.lt_succ_self _));have I2:=Inv.made (C:=C) I;have r2:Vals (V.ref (s.heap.objs.size+1) :: (vs++dvs)) (Value.ref (s.heap.objs.size+1) :: (us++ds)):=.cons rfl (r.append hd)
 have hl:(Value.ref (s.heap.objs.size+1) :: us++ds).length=ps.length:=by
   have e:=r2.length;rw [F.len _ _ _ _ hq] at e;exact e.symm
 refine wpAny_call (make_map (f:=f) I.kIn M.makes M.init (beq_iff_eq.mp M.fn) (codeAny_mono (F.run _ X.stack _ _ ⟨Value.ref (s.heap.objs.size+1) :: us,[]⟩ (Value.ref (s.heap.objs.size+1) :: (us++ds)) _ _ E (hr.make C us [])
   (I2.env0.make C us []) (hb _ (Value.ref (s.heap.objs.size+1) :: us) I2.kIn hl) r2 hq) fun r s' hq'=>?_))
 cases r with
 | error e=>exact hx pins σ _ _ e s' I2 hq'
 | ok fl =>
   cases fl with
   | ret u =>
     obtain ⟨v,H',I3,rv,ev,q3⟩:=I2.after hq';subst ev
     exact ⟨rv,⟨V.ref (s.heap.objs.size+1),H',I3,rfl,q3⟩⟩
   | next=>exact False.elim hq'
   | brk=>exact False.elim hq'
   | cont=>exact False.elim hq'
theorem pe_make (M:Mk X.K C f) (F:FnOk X.prog X.w X.K X.mg X.base CX k f fd ps sp) (hr:Room (k+1) X.A) (hg:Gl X x) (hm:X.mg x=some (.ref C)) (hb:Binds X.K fd ps ds) (hd:Vals dvs ds) (hx:Passes CX X E)
   (ha:PA X (e :: es) t) (hdb:(x == ("__debug__" : Str))=false:=by decide) (he:starEach (e :: es) X.env=(false,eval e X.env) :: starEach es X.env:=by rfl) (hpl:(backTo pos (starEach es X.env)).any (·.1)=false:=by rfl) :
   PE X (.Call (.Name x p) (e :: es) [] pos) (tMake C sp dvs E t):=by
 intro pins s σ H Q I h;refine wpAny_Call_Name_kw (ld_glob I hg hm ?_ hdb);refine PySem.W.callWith_K (h₀:=X.base) I.ok.mod.kin M.kp (thn (ha pos pins s σ H _ I h) fun us s1 ⟨vs,H1,I1,r,q⟩=>⟨I1.kIn,?_⟩) he hpl;exact run_make M F hr hb hd hx I1 r q
theorem pe_make0 (M:Mk X.K C f) (F:FnOk X.prog X.w X.K X.mg X.base CX k f fd ps sp) (hr:Room (k+1) X.A) (hg:Gl X x) (hm:X.mg x=some (.ref C)) (hb:Binds X.K fd ps ds) (hd:Vals dvs ds) (hx:Passes CX X E)
   (hdb:(x == ("__debug__" : Str))=false:=by decide):PE X (.Call (.Name x p) [] [] pos) (tMake C sp dvs E tNil):=by
 intro pins s σ H Q I h;refine wpAny_Call_Name_kw (ld_glob I hg hm ?_ hdb);exact PySem.W.callWith_K0 I.kIn M.kp (run_make (us:=[]) M F hr hb hd hx I .nil h)
end
section
variable {X:Cx} {CX:CXT} {k:Nat} {f C:Addr} {fd:FuncData} {ps ks:List Str} {sp:Sp} {E:XK} {x m:Str} {p pos apos kpos:Pos} {e o:Expr} {es:List Expr} {kws:List Keyword} {te ta:TE} {t tk:TA} {nm:Option Str}
variable {g:List Value→List Value→List Value} {gV:List V→List V→List V}
end
structure FnScope (N P:List Str) (sc:Scope):Prop where
 kind:sc.kind = .function
 co:sc.isCoroutine=false
 gen:sc.isGenerator=false
 nd:N.Nodup
 pre:N.take P.length=P
 par:∀ x∈P,sc.names.lookup x=some .local∨sc.names.lookup x=some .cell
 nofree:∀ y∈sc.names,y.2≠.free
theorem bindL_out {kindOf:Str→Option NameKind} {x:Str}:∀ {binds:List (Str × Value)} {m:Str→Option Value},(∀ v,(x,v) ∉ binds)→bindL kindOf binds m x=m x
 | [],_,_=>rfl
 | (n,v) :: r,m,h=>by
   unfold bindL;rw [bindL_out fun w hw=>h w (List.mem_cons_of_mem _ hw)];split
   · have:x≠n:=by rintro rfl; exact h v List.mem_cons_self
     simp [this]
   · rfl
theorem bindC_out {kindOf:Str→Option NameKind} {x:Str}:∀ {binds:List (Str × Value)} {m:Str→Option Value},(∀ v,(x,v) ∉ binds)→bindC kindOf binds m x=m x
 | [],_,_=>rfl
 | (n,v) :: r,m,h=>by
   unfold bindC;rw [bindC_out fun w hw=>h w (List.mem_cons_of_mem _ hw)];split
   · rfl
   · have:x≠n:=by rintro rfl; exact h v List.mem_cons_self
     simp [this]
theorem bindL_get {kindOf:Str→Option NameKind} {x:Str} {v:Value}:∀ {P:List Str} {vs:List Value} {i:Nat} {m:Str→Option Value},P.Nodup→P[i]? = some x→vs[i]? = some v→kindOf x=some .local →
   bindL kindOf (P.zip vs) m x=some v
 | [],_,_,_,_,h,_,_=>by simp at h
 | _ :: _,[],_,_,_,_,h,_=>by simp at h
 | p :: P,w :: vs,0,m,nd,h1,h2,hk=>by
   simp at h1 h2; subst h1; subst h2;show bindL kindOf ((p,w) :: P.zip vs) m p=_;unfold bindL;rw [bindL_out fun v hv=>(List.nodup_cons.mp nd).1 (List.of_mem_zip hv).1,if_pos hk]
   simp
 | p :: P,w :: vs,i+1,m,nd,h1,h2,hk=>by
   show bindL kindOf ((p,w) :: P.zip vs) m x=_;unfold bindL;exact bindL_get (i:=i) (List.nodup_cons.mp nd).2 (by simpa using h1) (by simpa using h2) hk
theorem bindC_get {kindOf:Str→Option NameKind} {x:Str} {v:Value}:∀ {P:List Str} {vs:List Value} {i:Nat} {m:Str→Option Value},P.Nodup→P[i]? = some x→vs[i]? = some v→kindOf x≠some .local →
   bindC kindOf (P.zip vs) m x=some v
 | [],_,_,_,_,h,_,_=>by simp at h
 | _ :: _,[],_,_,_,_,h,_=>by simp at h
 | p :: P,w :: vs,0,m,nd,h1,h2,hk=>by
   simp at h1 h2; subst h1; subst h2;show bindC kindOf ((p,w) :: P.zip vs) m p=_;unfold bindC;rw [bindC_out fun v hv=>(List.nodup_cons.mp nd).1 (List.of_mem_zip hv).1,if_neg hk]
   simp
 | p :: P,w :: vs,i+1,m,nd,h1,h2,hk=>by
   show bindC kindOf ((p,w) :: P.zip vs) m x=_;unfold bindC;exact bindC_get (i:=i) (List.nodup_cons.mp nd).2 (by simpa using h1) (by simpa using h2) hk
noncomputable def start (N:List Str) (vs:List V):St:=vs.map some++List.replicate (N.length - vs.length) none
noncomputable def cxOf (CX:CXT) (P:Program) (w:World) (K:PySem.W.Frag) (mg:Str→Option Value) (base:Heap) (N:List Str) (qual:Str) (scope:Scope) (f:Addr) (cd:Value) (A:Around) (outer:List Env) (s:Shared) (H:Hp) (E:XK):Cx where
 prog:=P
 w:=w
 K:=K
 mg:=mg
 base:=base
 A:=A.deeper (envOfC qual scope s.heap.objs.size f cd)
 N:=N
 s_0:=s
 H_0:=H
 env:=envOfC qual scope s.heap.objs.size f cd
 outer:=outer
 stack:=envOfC qual scope s.heap.objs.size f cd :: outer
 ex:=[]
 calm:=true
 fn:=fun _=>true
 pn:=[]
 xe:=fun e s'=>wpAny (model P w) (A.deeper (envOfC qual scope s.heap.objs.size f cd)) (leaving (envOfC qual scope s.heap.objs.size f cd) e) (fun _ s''=>CX outer H s E e s'') (fun e' s''=>CX outer H s E e' s'') s'
theorem cell_has {sc:Scope} {n:Nat} {x:Str} (h:sc.names.lookup x=some .cell):∃ c,(cellsFrom n sc.names []).lookup x=some c:=by
 have q:=PySem.W.cellsFrom_some sc.names n [] (.inl h);exact Option.isSome_iff_exists.mp q
theorem inv_start {CX:CXT} {P:Program} {w:World} {K:PySem.W.Frag} {mg:Str→Option Value} {base:Heap} {N ps:List Str} {qual:Str} {scope:Scope} {f:Addr} {cd:Value} {A:Around} {outer:List Env} {s s1:Shared} {H:Hp} {E:XK} {us:List Value} {vs:List V}
   (S:FnScope N ps scope) (hd:A.handled=none) (e0:Env0 P w K mg base A outer s H) (hl:vs.length=ps.length) (r:Vals vs us)
   (x:InCallC s s.heap.objs.size (bindL (envOfC qual scope s.heap.objs.size f cd).kindOf (ps.zip us) fun _=>none) (cellsFrom (s.heap.objs.size+1) scope.names []) (bindC (envOfC qual scope s.heap.objs.size f cd).kindOf (ps.zip us) fun _=>none) s1) :
   Inv (cxOf CX P w K mg base N qual scope f cd A outer s H E) [] (start N vs) H s1:=by
 have hpl:ps.length≤N.length:=by have:=congrArg List.length S.pre; rw [List.length_take] at this; omega
 obtain ⟨h1,tk,rfl,hk⟩:=x.done;have noA:∀ b:Addr,b ∉ (cxOf CX P w K mg base N qual scope f cd A outer s H E).ex:=fun b z=>absurd (show b∈([]:List Addr) from z) (by simp)
 refine ⟨⟨e0.mod,S.kind,rfl,rfl,Nat.le_refl _,fun y z c h1 h2=>?_,fun y hy=>?_,fun y c _ h=>?_,fun _=>hd,Around.frames_deeper e0.frames,.inr ⟨rfl,rfl⟩,fun b z=>absurd z (noA b),e0.bs,e0.bsz,fun b _ _=>noA b,fun b z=>absurd z (noA b),e0.funs,e0.frf⟩,
   rfl,e0.bare,Un.kept hk,⟨_,x.toInCall.ns,fun i y v h1 h2 h3=>?_⟩,fun y c h=>⟨_,x.cell y c h⟩,e0.hok.fresh (Nat.le_refl _),fun y c h=>?_,fun p hp=>absurd (show p∈([]:List (Addr × Obj)) from hp) (by simp),e0.hok.kept hk,?_⟩
 · exact name_of_addr x.apart (PySem.mem_of_lookup h1) (PySem.mem_of_lookup h2)
 · have hy:scope.names.lookup y=some .cell∨scope.names.lookup y=some .free:=hy;rcases hy with hy | hy
   · exact cell_has hy
   · exact absurd rfl (S.nofree _ (PySem.mem_of_lookup hy))
 · exact Nat.le_of_lt (x.above y c (PySem.mem_of_lookup h))
 · have hi:i < vs.length:=by
     unfold start at h2;by_cases hi:i < vs.length
     · exact hi
     · rw [List.getElem?_append_right (by simpa using hi)] at h2;rw [List.getElem?_replicate] at h2;split at h2 <;> cases h2
   have ha:vs[i]? = some v:=by
     unfold start at h2;rw [List.getElem?_append_left (by simpa using hi),List.getElem?_map] at h2
     cases e:vs[i]? with
     | none=>rw [e] at h2; cases h2
     | some a=>rw [e] at h2; cases h2; rfl
   obtain ⟨u,hu,rv⟩:=r.get ha
   have hp:ps[i]? = some y:=by
     rw [← S.pre,List.getElem?_take_of_lt (by omega)]; exact h1
   have ndP:ps.Nodup:=by rw [← S.pre]; exact S.nd.sublist (List.take_sublist _ _)
   refine ⟨u,rv,?_⟩;rcases S.par y (List.mem_of_getElem? hp) with k | k
   · exact .inl ⟨k,bindL_get ndP hp hu k⟩
   · obtain ⟨c,e⟩:=cell_has (n:=s.heap.objs.size+1) k;refine .inr ⟨.inl k,c,e,?_⟩;have q:=x.cell y c e;rw [bindC_get ndP hp hu (by show scope.names.lookup y≠_; rw [k]; decide)] at q;exact q
 · exact e0.hok.fresh (Nat.le_of_lt (x.above y c (PySem.mem_of_lookup h)))
 · unfold start;show _=N.length;rw [List.length_append,List.length_map,List.length_replicate];omega
theorem fn_of {CX:CXT} {P:Program} {w:World} {K:PySem.W.Frag} {mg:Str→Option Value} {base:Heap} {k:Nat} {f:Addr} {name qual:Str} {params:Arguments} {body:List Stmt} {scope:Scope} {dV kV doc pm cdv ct oc:Value} {an od:Option Addr}
   {osl:Array (Option Value)} {N ps:List Str} {sp:Sp} (lk:K.lookup f=some ⟨oc,od,.func (PySem.W.fnOf name qual params body scope dV kV doc pm an cdv ct),osl⟩) (hcd:PySem.W.codeIn K cdv qual=true) (S:FnScope N ps scope)
   (len:∀ vs H Q E,sp vs H Q E→vs.length=ps.length)
   (hbody:∀ (A:Around) (outer:List Env) (s:Shared) (H:Hp) (vs:List V) (Q:VK) (E:XK),Room k (A.deeper (envOfC qual scope s.heap.objs.size f cdv))→sp vs H Q E →
     ∃ t,PSs (cxOf CX P w K mg base N qual scope f cdv A outer s H E) body t∧t { nx:=fun _ H'=>Q .non H',rt:=Q } (start N vs) H) :
   FnOk P w K mg base CX (k+1) f (PySem.W.fnOf name qual params body scope dV kV doc pm an cdv ct) ps sp:=by
 refine ⟨len,fun A outer s H args us vs Q E hr e0 hb r hsp=>?_⟩;have hl:=len _ _ _ _ hsp;have KX:K.In s.heap:=e0.mod.kin.keeps fun b o e=>(e0.bs b o e).1;have lim:s.heap.NoLimit:=e0.mod.nolimit.keeps fun b o e=>(e0.bs b o e).1
 have hkind:∀ y∈ps.zip us,scope.names.lookup y.1=some .local∨(scope.names.lookup y.1=some .cell∧((cellsFrom (s.heap.objs.size+1) scope.names []).lookup y.1).isSome=true):=fun ⟨n,v⟩ hy=>by
   rcases S.par n (List.of_mem_zip hy).1 with q | q
   · exact .inl q
   · exact .inr ⟨q,PySem.W.cellsFrom_some _ _ _ (.inl q)⟩
 refine codeAny_call_function hr.depth (KX _ _ lk) rfl S.co S.gen rfl (PySem.W.codeRec_of KX hcd) (hb _ _ _ _ ?_);refine wpAny_newFunctionEnv_cells S.kind hkind fun env he s1 x=>?_;subst he;refine ⟨lim.keeps x.toInCall.keep,codeAny_func ?_⟩;obtain ⟨t,ht,hq⟩:=hbody A outer s H vs Q E (hr.deeper _) hsp;have I:Inv (cxOf CX P w K mg base N qual scope f cdv A outer s H E) [] (start N vs) H s1:=inv_start S hr.hd e0 hl r x;refine wpAny_mono (ht [] s1 (start N vs) H _ I hq) (fun fl s' hs=>?_) fun e s' hs=>hs
 have fin:∀ {σ':St} {H':Hp} {v:V} {u:Value},Inv (cxOf CX P w K mg base N qual scope f cdv A outer s H E) [] σ' H' s'→RelV v u→Q v H'→CE outer P w H s Q u s' :=
   fun {σ' H' v u} J rv q=>⟨v,H',J.os,J.bare,J.base,J.hok,rv,q⟩
 cases fl with
 | ret u =>
   obtain ⟨v,σ',H',J,rv,q⟩:=hs
   exact fin J rv q
 | next =>
   obtain ⟨σ',H',J,q⟩:=hs
   exact fin (v:=V.non) (u:=Value.none) J rfl q
 | brk =>
   obtain ⟨_,_,_,q⟩:=hs
   exact False.elim q
 | cont =>
   obtain ⟨_,_,_,q⟩:=hs;exact False.elim q
end L2
namespace L2
open PySem PySem.Spec PyProof.Rows
section
variable {X:Cx} {x:Str} {p pos:Pos} {e:Expr} {es:List Expr} {t:TA} {id T:String} {r:List V→Hp→VK→Prop}
noncomputable def tCB (r:List V→Hp→VK→Prop) (t:TA):TE:=fun σ H Q=>t σ H fun vs H1=>r vs H1 Q
theorem pe_callB (hc:CallR X (.builtin id) r) (hg:Gl X x) (hm:X.mg x=none) (hv:bootBuiltins x=some (.builtin id)) (ha:PA X (e :: es) t) (hn:x ≠ "__name__" := by decide) (hdb:(x == ("__debug__" : Str))=false:=by decide)
   (he:starEach (e :: es) X.env=(false,eval e X.env) :: starEach es X.env:=by rfl) (hpl:(backTo pos (starEach es X.env)).any (·.1)=false:=by rfl):PE X (.Call (.Name x p) (e :: es) [] pos) (tCB r t):=by
 intro pins s σ H Q I h;refine wpAny_Call_Name_kw (ld_blt I hg hm hv ?_ hn hdb);exact PyProof.Rows.callWith_builtin1 (thn (ha pos pins s σ H _ I h) fun us s1 ⟨vs,H1,I1,r1,q1⟩=>hc pins s1 σ H1 vs us Q I1 r1 q1) he hpl
theorem pe_callTy (hc:CallR X (.type T) r) (hg:Gl X x) (hm:X.mg x=none) (hv:bootBuiltins x=some (.type T)) (ha:PA X (e :: es) t) (hn:x ≠ "__name__" := by decide) (hdb:(x == ("__debug__" : Str))=false:=by decide)
   (he:starEach (e :: es) X.env=(false,eval e X.env) :: starEach es X.env:=by rfl) (hpl:(backTo pos (starEach es X.env)).any (·.1)=false:=by rfl):PE X (.Call (.Name x p) (e :: es) [] pos) (tCB r t):=by
 intro pins s σ H Q I h;refine wpAny_Call_Name_kw (ld_blt I hg hm hv ?_ hn hdb);exact PyProof.Rows.callWith_type1 (thn (ha pos pins s σ H _ I h) fun us s1 ⟨vs,H1,I1,r1,q1⟩=>hc pins s1 σ H1 vs us Q I1 r1 q1) he hpl
end
end L2
namespace HT
open PySem PyProof.Rows
section
open PySem.SeqAt
open PySem.AutoSeq1 (wpAny_loadPart')
open PySem.MeetsSeq PySem.MeetsSeq2 PySem.MeetsSeq3
end
section
variable {prog:Program} {w:World} {A:Around} {E:Value→Shared→Prop} {s:Shared}
noncomputable def sIx (n d:Nat):Option Int→Nat
 | none=>d
 | some v=>if v < 0 then (v+(n:Int)).toNat else min v.toNat n
theorem sIx_nat (n d k:Nat):sIx n d (some (k:Int))=min k n:=by
 show (if (k:Int) < 0 then ((k:Int)+(n:Int)).toNat else min (k:Int).toNat n)=min k n;rw [if_neg (by omega),Int.toNat_natCast]
end
end HT
namespace L2
open PySem PySem.Spec PyProof.Rows
noncomputable abbrev TO:=St→Hp→(Option Int→Hp→Prop)→Prop
noncomputable def PO (X:Cx) (e:Option Expr) (t:TO):Prop :=
 ∀ (pins:List (Addr × Obj)) (s:Shared) (σ:St) (H:Hp) (Q:Option Int→Hp→Prop),Inv X pins σ H s→t σ H Q →
   wpAny (model X.prog X.w) X.A (evalPart e X.env) (fun u s'=>∃ o H',Inv X pins σ H' s'∧IsPart u o∧Q o H') X.xe s
noncomputable def tNoPart:TO:=fun _ H Q=>Q none H
noncomputable def tPart (t:TE):TO:=fun σ H Q=>t σ H fun x H1=>∃ i,x = .int i∧Q (some i) H1
section
variable {X:Cx} {e:Expr} {te:TE} {lo hi:Option Expr} {tl th:TO} {pos p2:Pos}
theorem po_some (h:PE X e te):PO X (some e) (tPart te):=by
 intro pins s σ H Q I hw;rw [evalPart_some];refine thn (h pins s σ H _ I hw) fun u s1 ⟨x,H1,I1,r1,q1⟩=>?_;obtain ⟨i,rfl,q⟩:=q1;obtain ⟨t,rfl⟩:=r1;exact ⟨some i,H1,I1,.int i t,q⟩
noncomputable def SlR (X:Cx) (r:V→Option Int→Option Int→Hp→VK→Prop):Prop :=
 ∀ (pins:List (Addr × Obj)) (s:Shared) (σ:St) (H:Hp) (x:V) (v vl vu:Value) (lo hi:Option Int) (sl:Addr) (Q:VK),Inv X pins σ H s→RelV x v→s.heap.IsSliceOf sl vl vu .none→IsPart vl lo→IsPart vu hi→r x lo hi H Q →
   ∃ T id,typeLookup (.type T) "__getitem__" = pure (some (.builtin id))∧s.TypeIs v T∧wpAny (model X.prog X.w) X.A (getItem v (.ref sl)) (EP X pins σ Q) X.xe s
noncomputable def tSl (r:V→Option Int→Option Int→Hp→VK→Prop) (te:TE) (tl th:TO):TE:=fun σ H Q=>te σ H fun x H1=>tl σ H1 fun l H2=>th σ H2 fun u H3=>r x l u H3 Q
theorem pe_slice {r:V→Option Int→Option Int→Hp→VK→Prop} (hr:SlR X r) (he:PE X e te) (hl:PO X lo tl) (hu:PO X hi th):PE X (.Subscript e (.Slice lo hi none p2) pos) (tSl r te tl th):=by
 intro pins s σ H Q I h;refine Subscript_ (thn (he pins s σ H _ I h) fun v s1 ⟨x,H1,I1,r1,q1⟩=>?_);refine wpAny_Slice (thn (hl pins s1 σ H1 _ I1 q1) fun vl s2 ⟨l,H2,I2,pl,q2⟩=>thn (hu pins s2 σ H2 _ I2 q2) fun vu s3 ⟨u,H3,I3,pu,q3⟩=>?_);rw [evalPart_none];refine wpAny_pure ?_;have I4:Inv X pins σ H3 { s3 with heap:=s3.heap.push { cls:=.type "slice",data:=.fields #[vl,vu,.none] } }:=I3.kept (t':=s3.toks) fun b ob q=>Heap.get?_push_of_some _ q;obtain ⟨T,id,hT,ht,hg⟩:=hr pins { s3 with heap:=s3.heap.push { cls:=.type "slice",data:=.fields #[vl,vu,.none] } } σ H3 x v vl vu l u s3.heap.objs.size Q I4 r1 (Heap.IsSliceOf.new ..) pl pu q3;show wpAny (model X.prog X.w) X.A (subscriptTail e (.Slice lo hi none p2) v (.ref s3.heap.objs.size)) (EP X pins σ Q) X.xe { s3 with heap:=s3.heap.push { cls:=.type "slice",data:=.fields #[vl,vu,.none] } };exact tail_any (ops:=[.ref s3.heap.objs.size,v]) ht hT hg (by with_unfolding_all rfl)
noncomputable def cutV (xs:List V) (lo hi:Option Int):List V:=(xs.drop (HT.sIx xs.length 0 lo)).take (HT.sIx xs.length xs.length hi - HT.sIx xs.length 0 lo)
theorem cutV_length (xs:List V) (lo hi:Option Int):(cutV xs lo hi).length≤xs.length:=by
 unfold cutV;rw [List.length_take,List.length_drop];omega
end
end L2
namespace L2
open PySem PySem.Spec PyProof.Rows
noncomputable def ixN (n:Nat) (i:Int):Option Nat:=if 0≤i then (if i < n then some i.toNat else none) else if -(n:Int)≤i then some (i+n).toNat else none
noncomputable def atI {α:Type} (xs:List α) (i:Int):Option α:=(ixN xs.length i).bind fun j=>xs[j]?
theorem ixN_seq {n:Nat} {i:Int} {j:Nat} (h:ixN n i=some j):seqIndex? i n=some j∧j < n∧-(n:Int)≤i∧i < n:=by
 unfold ixN at h;by_cases h0:0≤i
 · rw [if_pos h0] at h;by_cases h1:i < n
   · rw [if_pos h1] at h;have e:i.toNat=j:=Option.some.inj h;exact ⟨by rw [seqIndex_of h0 h1,e],by omega,by omega,h1⟩
   · rw [if_neg h1] at h; cases h
 · rw [if_neg h0] at h;by_cases h1:-(n:Int)≤i
   · rw [if_pos h1] at h;have e:(i+n).toNat=j:=Option.some.inj h;exact ⟨by rw [seqIndex_neg (by omega) h1,e],by omega,h1,by omega⟩
   · rw [if_neg h1] at h; cases h
theorem atI_get {α:Type} {xs:List α} {i:Int} {v:α} (h:atI xs i=some v):∃ j,seqIndex? i xs.length=some j∧xs[j]? = some v∧j < xs.length∧-(xs.length:Int)≤i∧i < xs.length:=by
 unfold atI at h
 cases e:ixN xs.length i with
 | none=>rw [e] at h; cases h
 | some j =>
   rw [e] at h;obtain ⟨h1,h2,h3,h4⟩:=ixN_seq e;exact ⟨j,h1,h,h2,h3,h4⟩
theorem atI_nat {α:Type} {xs:List α} {j:Nat} {v:α} (h:xs[j]? = some v):atI xs (j:Int)=some v:=by
 have hj:j < xs.length:=(List.getElem?_eq_some_iff.mp h).1
 have e:ixN xs.length (j:Int)=some j:=by
   unfold ixN;rw [if_pos (by omega),if_pos (by omega)]; simp
 unfold atI; rw [e]; exact h
noncomputable def PlainIx (b:Expr):Prop:=∀ o i,subscripted b false o i=operate [o,i] (getItem o i)
noncomputable def IxR (X:Cx) (r:R2):Prop :=
 ∀ (value slice:Expr) (pins:List (Addr × Obj)) (s:Shared) (σ:St) (H:Hp) (x y:V) (v u:Value) (Q:VK),Inv X pins σ H s→RelV x v→RelV y u→r x y H Q →
   subscripted slice false v u=operate [v,u] (getItem v u)→wpAny (model X.prog X.w) X.A (subscriptTail value slice v u) (EP X pins σ Q) X.xe s
noncomputable def MtR (X:Cx) (id:String) (r:V→List V→Hp→VK→Prop):Prop :=
 ∀ (pins:List (Addr × Obj)) (s:Shared) (σ:St) (H:Hp) (x:V) (xs:List V) (v:Value) (us:List Value) (Q:VK),Inv X pins σ H s→RelV x v→Vals xs us→r x xs H Q →
   wpAny (model X.prog X.w) X.A (call (.builtin id) (v :: us)) (EP X pins σ Q) X.xe s
section
variable {X:Cx} {a b:Expr} {ta tb:TE} {pos:Pos}
theorem pe_ix {r:R2} (hr:IxR X r) (ha:PE X a ta) (hb:PE X b tb) (hs:PlainIx b):PE X (.Subscript a b pos) (tOp r ta tb):=by
 intro pins s σ H Q I h;exact Subscript_ (binT ha hb I h fun v u s2 x y H2 I2 rx ry q=>hr a b pins s2 σ H2 x y v u Q I2 rx ry q (hs _ _))
noncomputable def rIxL (K:PySem.W.Frag):R2:=fun x y H Q=>∃ p xs i v,x = .ref p∧y = .int i∧SqL K H p xs∧atI xs i=some v∧Q v H
noncomputable def rIxT (K:PySem.W.Frag):R2:=fun x y H Q=>∃ p xs i v,x = .ref p∧y = .int i∧SqT K H p xs∧atI xs i=some v∧Q v H
noncomputable def rIxS:R2:=fun x y H Q=>∃ z i c,x = .str z∧y = .int i∧z.length≤sizeLine∧atI z.cps.toList i=some c∧Q (.str ⟨#[c]⟩) H
theorem ix_list:IxR X (rIxL X.K):=by
 intro value slice pins s σ H x y v u Q I rx ry h hs;obtain ⟨p,xs,i,z,rfl,rfl,hq,he,q⟩:=h;cases rx;obtain ⟨t,rfl⟩:=ry;obtain ⟨its,r,pl,hz⟩:=I.list hq;obtain ⟨j,h1,h2,h3,h4,h5⟩:=atI_get he;obtain ⟨w,ew,rw'⟩:=r.get h2;have hl:=r.length;have hn:=line63;have fin:EP X pins σ Q w s:=⟨z,H,I,rw',q⟩;by_cases h0:0≤i
 · have hj:i.toNat=j:=by
     rw [seqIndex_of h0 h5] at h1;exact Option.some.inj h1
   exact item_listR pl.isList h0 (by omega) (by rw [hj]; simpa using ew) fin hs
 · have hj:(i+(its.toArray.size:Int)).toNat=j:=by
     rw [seqIndex_neg (by omega) h4] at h1;rw [List.size_toArray,← hl];exact Option.some.inj h1
   exact subscriptTail_builtinR (x:=w) pl.isList.typeIs slot_list_getitem.lookup
     (wpAny_getItem_list_neg (Q:=fun r s'=>r=w∧EP X pins σ Q r s') pl.isList (by omega) (by rw [List.size_toArray] <;> omega) (by omega) (by rw [hj]; simpa using ew) ⟨rfl,fin⟩) hs
theorem ix_tup:IxR X (rIxT X.K):=by
 intro value slice pins s σ H x y v u Q I rx ry h hs;obtain ⟨p,xs,i,z,rfl,rfl,hq,he,q⟩:=h;cases rx;obtain ⟨t,rfl⟩:=ry;obtain ⟨its,r,pl,hz⟩:=I.tuple hq;obtain ⟨j,h1,h2,h3,h4,h5⟩:=atI_get he;obtain ⟨w,ew,rw'⟩:=r.get h2;have hl:=r.length;have hn:=line63;have fin:EP X pins σ Q w s:=⟨z,H,I,rw',q⟩
 exact subscriptTail_builtinR (x:=w) pl.typeIs slot_tuple_getitem.lookup
   (getItem_tuple (j:=j) (Q:=fun r s'=>r=w∧EP X pins σ Q r s') pl (by omega) (by omega) (by rw [List.size_toArray,← hl]; exact h1) (by simpa using ew) ⟨rfl,fin⟩) hs
theorem ix_str:IxR X rIxS:=by
 intro value slice pins s σ H x y v u Q I rx ry h hs;obtain ⟨z,i,c,rfl,rfl,hz,he,q⟩:=h;obtain ⟨t,rfl⟩:=rx;obtain ⟨t',rfl⟩:=ry;obtain ⟨j,h1,h2,h3,h4,h5⟩:=atI_get he;have hl:z.cps.toList.length=z.length:=by simp [Str.length]
 rw [hl] at h1 h4 h5;have hn:=line63
 exact tail_any (typeIs_str s z t) slot_str_getitem.lookup (getItem_str (c:=c) (by
   have e1:decide (i < -(2 ^ 63:Int))=false:=decide_eq_false (by omega);have e2:decide (i ≥ 2 ^ 63)=false:=decide_eq_false (by omega);rw [e1,e2,Bool.or_false]) (by rw [h1]; simpa using h2) ⟨.str ⟨#[c]⟩,H,I.tok _,⟨_,rfl⟩,q⟩) hs
theorem mapSeq_set (its:List Value) (n j:Nat) (u:Value):Obj.mapSeq (·.setIfInBounds j u) { cls:=.type "list",data:=.seq its.toArray n } = { cls:=.type "list",data:=.seq (its.set j u).toArray n }:=by
 simp [Obj.mapSeq]
theorem Inv.lst {pins:List (Addr × Obj)} {σ:St} {H:Hp} {s:Shared} {p:Addr} {xs:List V} (I:Inv X pins σ H s) (h:H p=some (.lst xs)) :
   ∃ (its:List Value) (n:Nat),Vals xs its∧s.heap.get? p=some { cls:=.type "list",data:=.seq its.toArray n }∧xs.length≤sizeLine:=by
 obtain ⟨z,its,n,r,e⟩:=I.hok p _ h;exact ⟨its,n,r,e,z⟩
theorem Inv.lstUpd {pins:List (Addr × Obj)} {σ:St} {H:Hp} {s:Shared} {p:Addr} {xs ys:List V} {its its':List Value} {n n':Nat} {f:Obj→Obj} (I:Inv X pins σ H s) (h:H p=some (.lst xs))
   (ho:s.heap.get? p=some { cls:=.type "list",data:=.seq its.toArray n }) (hf:f { cls:=.type "list",data:=.seq its.toArray n } = { cls:=.type "list",data:=.seq its'.toArray n' }) (r:Vals ys its') (hz:ys.length≤sizeLine) (t:Nat) :
   Inv X pins σ (upd H p (.lst ys)) { s with heap:=s.heap.update p f,toks:=t }:=by
 have e:(s.heap.update p f).get? p=some { cls:=.type "list",data:=.seq its'.toArray n' }:=by
   rw [Heap.get?_update_self f ho (by rw [hf] <;> rfl),hf]
 refine I.write (x:=p) (e:=p) (by rw [h]; trivial) (.inl rfl) (fun b u hb q=>(Heap.get?_update_other _ _ (Ne.symm hb)).trans q) ⟨_,e⟩ ?_;exact ⟨hz,its',n',r,e⟩
noncomputable def rSetL:V→V→V→Hp→(Hp→Prop)→Prop:=fun o i v H Q=>∃ p xs k j,o = .ref p∧i = .int k∧H p=some (.lst xs)∧ixN xs.length k=some j∧Q (upd H p (.lst (xs.set j v)))
theorem set_list:PSet X rSetL:=by
 intro pins s σ H o i v ov iv u Q I ro ri rv h;obtain ⟨p,xs,k,j,rfl,rfl,hp,hj,q⟩:=h;cases ro;obtain ⟨t,rfl⟩:=ri;obtain ⟨its,n,r,ho,hz⟩:=I.lst hp;obtain ⟨h1,h2,h3,h4⟩:=ixN_seq hj;have hl:=r.length;have hn:=line63
 have I':Inv X pins σ (upd H p (.lst (xs.set j v))) { s with heap:=s.heap.update p (Obj.mapSeq (·.setIfInBounds j u)) } :=
   I.lstUpd hp ho (mapSeq_set its n j u) (r.set rv j) (by rw [List.length_set]; exact hz) s.toks
 by_cases h0:0≤k
 · have hk:k.toNat=j:=by
     rw [seqIndex_of h0 h4] at h1;exact Option.some.inj h1
   exact PySem.W.ki_setAt ho h0 (by omega) (by rw [List.size_toArray,← hl]; exact h4) (by rw [hk]; exact ⟨_,I',q⟩)
 · have hk:(k+(its.toArray.size:Int)).toNat=j:=by
     rw [seqIndex_neg (by omega) h3] at h1;rw [List.size_toArray,← hl];exact Option.some.inj h1
   exact PySem.W.ki_setBack ho (by omega) (by rw [List.size_toArray,← hl]; exact h3) (by omega) (by rw [hk]; exact ⟨_,I',q⟩)
theorem slice_bounds (lo hi:Option Int) (n:Nat):(sliceBounds lo hi none n).1=((HT.sIx n 0 lo:Nat):Int)∧(sliceBounds lo hi none n).2.1=((HT.sIx n n hi:Nat):Int)∧(sliceBounds lo hi none n).2.2=1:=by
 refine ⟨?_,?_,rfl⟩
 · cases lo with
   | none=>simp [sliceBounds,HT.sIx]
   | some i =>
     simp only [sliceBounds,HT.sIx,Option.getD_none,show (1:Int) > 0 by decide,if_true];by_cases h:i < 0
     · simp only [h,if_true] <;> omega
     · simp only [h,if_false] <;> omega
 · cases hi with
   | none=>simp [sliceBounds,HT.sIx]
   | some i =>
     simp only [sliceBounds,HT.sIx,Option.getD_none,show (1:Int) > 0 by decide,if_true];by_cases h:i < 0
     · simp only [h,if_true] <;> omega
     · simp only [h,if_false] <;> omega
theorem slicePick_cut (its:List Value) (lo hi:Option Int):slicePick its.toArray lo hi none=((its.drop (HT.sIx its.length 0 lo)).take (HT.sIx its.length its.length hi - HT.sIx its.length 0 lo)).toArray:=by
 obtain ⟨h1,h2,h3⟩:=slice_bounds lo hi its.toArray.size;unfold slicePick;rw [h1,h2,h3];simp only [sliceRange_one,pick_run,List.size_toArray] <;> rfl
noncomputable def rSlL (K:PySem.W.Frag):V→Option Int→Option Int→Hp→VK→Prop:=fun x lo hi H Q=>∃ a xs,x = .ref a∧SqL K H a xs∧∀ p,H p=none→Q (.ref p) (upd H p (.lst (cutV xs lo hi)))
theorem sl_list:SlR X (rSlL X.K):=by
 intro pins s σ H x v vl vu lo hi sl Q I rx hs pl pu h;obtain ⟨a,xs,rfl,hx,q⟩:=h;cases rx;obtain ⟨its,r,ht,hz⟩:=I.list hx;have hlen:=r.length;refine ⟨"list",_,slot_list_getitem.lookup,ht.isList.typeIs,?_⟩;refine wpAny_getItem_list_slice ht.isList hs pl pu .none (by simp) ?_ (by rw [List.size_toArray] <;> omega);rw [slicePick_cut,← hlen];refine ⟨.ref s.heap.objs.size,_,I.laid (t':=s.toks) (o:=.lst (cutV xs lo hi)) (fun b ob q=>Heap.get?_push_of_some _ q) (Nat.le_refl _) ?_,rfl,q _ (I.hok.fresh (Nat.le_refl _))⟩;exact ⟨Nat.le_trans (cutV_length xs lo hi) hz,_,0,(r.drop (HT.sIx xs.length 0 lo)).take (HT.sIx xs.length xs.length hi - HT.sIx xs.length 0 lo),Heap.get?_push_size _ rfl⟩
noncomputable def flatV:V→Bool
 | .non=>true
 | .bl _=>true
 | .int _=>true
 | .str _=>true
 | _=>false
noncomputable def eqV:V→V→Bool
 | .non,.non=>true
 | .bl a,.bl b=>a == b
 | .bl a,.int b=>(if a then 1 else 0) == b
 | .int a,.bl b=>a == (if b then 1 else 0)
 | .int a,.int b=>a == b
 | .str a,.str b=>a == b
 | _,_=>false
theorem eqAt_V {A:Around} {s:Shared} {y x:V} {u v:Value} (ry:RelV y u) (rx:RelV x v) (fy:flatV y=true) (fx:flatV x=true):SeqAt.EqAt A s u v (eqV y x):=by
 cases y with
 | non =>
   cases ry
   cases x with
   | non=>cases rx; exact SeqAt.EqAt.same _
   | bl b=>cases rx; exact SeqAt.EqAt.none_bool b
   | int b=>obtain ⟨t,rfl⟩:=rx; exact SeqAt.EqAt.none_int b t
   | str b=>obtain ⟨t,rfl⟩:=rx; exact SeqAt.EqAt.none_str b t
   | _=>exact absurd (show false=true from fx) Bool.false_ne_true
 | bl a =>
   cases ry
   cases x with
   | non=>cases rx; exact SeqAt.EqAt.bool_none a
   | bl b=>cases rx; exact SeqAt.EqAt.bool_bool a b
   | int b=>obtain ⟨t,rfl⟩:=rx; exact SeqAt.EqAt.bool_int a b t
   | str b=>obtain ⟨t,rfl⟩:=rx; exact SeqAt.EqAt.bool_str a b t
   | _=>exact absurd (show false=true from fx) Bool.false_ne_true
 | int a =>
   obtain ⟨t',rfl⟩:=ry
   cases x with
   | non=>cases rx; exact SeqAt.EqAt.int_none a t'
   | bl b=>cases rx; exact SeqAt.EqAt.int_bool a t' b
   | int b=>obtain ⟨t,rfl⟩:=rx; exact SeqAt.EqAt.int_int a t' b t
   | str b=>obtain ⟨t,rfl⟩:=rx; exact SeqAt.EqAt.int_str a t' b t
   | _=>exact absurd (show false=true from fx) Bool.false_ne_true
 | str a =>
   obtain ⟨t',rfl⟩:=ry
   cases x with
   | non=>cases rx; exact SeqAt.EqAt.str_none a t'
   | bl b=>cases rx; exact SeqAt.EqAt.str_bool a t' b
   | int b=>obtain ⟨t,rfl⟩:=rx; exact SeqAt.EqAt.str_int a t' b t
   | str b=>obtain ⟨t,rfl⟩:=rx; exact SeqAt.EqAt.str_str a t' b t
   | _=>exact absurd (show false=true from fx) Bool.false_ne_true
 | _=>exact absurd (show false=true from fy) Bool.false_ne_true
noncomputable def eqU (x:V) (u:Value):Bool:=match u with
 | .none=>eqV .non x
 | .bool b=>eqV (.bl b) x
 | .int i _=>eqV (.int i) x
 | .str z _=>eqV (.str z) x
 | _=>false
theorem eqU_of {x y:V} {u:Value} (r:RelV y u) (f:flatV y=true):eqU x u=eqV y x:=by
 cases y with
 | non=>cases r; rfl
 | bl b=>cases r; rfl
 | int i=>obtain ⟨t,rfl⟩:=r; rfl
 | str z=>obtain ⟨t,rfl⟩:=r; rfl
 | _=>exact absurd (show false=true from f) Bool.false_ne_true
theorem any_eqU {x:V}:∀ {xs:List V} {us:List Value},Vals xs us→xs.all flatV=true→us.any (eqU x)=xs.any fun y=>eqV y x
 | _,_,.nil,_=>rfl
 | y :: xs,u :: us,.cons r t,f=>by
   rw [List.all_cons,Bool.and_eq_true] at f;rw [List.any_cons,List.any_cons,eqU_of r f.1,any_eqU t f.2]
theorem mem_eqAt {A:Around} {s:Shared} {x:V} {v:Value} (rx:RelV x v) (fx:flatV x=true):∀ {xs:List V} {us:List Value},Vals xs us→xs.all flatV=true→∀ u∈us,SeqAt.EqAt A s u v (eqU x u)
 | _,_,.nil,_=>fun u hu=>by cases hu
 | y :: xs,u :: us,.cons r t,f=>fun u' hu=>by
   rw [List.all_cons,Bool.and_eq_true] at f;rcases List.mem_cons.mp hu with rfl | hu
   · rw [eqU_of r f.1]; exact eqAt_V r rx f.1 fx
   · exact mem_eqAt rx fx t f.2 u' hu
noncomputable def inV (x:V) (xs:List V):Bool:=xs.any fun y=>eqV y x
noncomputable def rIn (K:PySem.W.Frag) (neg:Bool):R2:=fun x y H Q=>∃ p xs,y = .ref p∧(SqL K H p xs∨SqT K H p xs)∧flatV x=true∧xs.all flatV=true∧Q (.bl (if neg then !inV x xs else inV x xs)) H
theorem op_in_seq:OpR X (compareOp .In) (rIn X.K false):=by
 intro pins s σ H x y v u Q I rx ry h;obtain ⟨p,xs,rfl,hq,fx,fs,q⟩:=h;cases ry;rcases hq with hq | hq
 · obtain ⟨its,r,pl,hz⟩:=I.list hq;refine SeqAt.in_listAt (eqU x) pl.isList (fun w hw=>mem_eqAt rx fx r fs w (by simpa using hw)) ⟨.bl _,H,I,rfl,?_⟩;rw [show its.toArray.any (eqU x)=its.any (eqU x) by simp,any_eqU r fs];exact q
 · obtain ⟨its,r,pl,hz⟩:=I.tuple hq;refine SeqAt.in_tupleAt (eqU x) pl (fun w hw=>mem_eqAt rx fx r fs w (by simpa using hw)) ⟨.bl _,H,I,rfl,?_⟩;rw [show its.toArray.any (eqU x)=its.any (eqU x) by simp,any_eqU r fs];exact q
theorem op_notIn_seq:OpR X (compareOp .NotIn) (rIn X.K true):=by
 intro pins s σ H x y v u Q I rx ry h;obtain ⟨p,xs,rfl,hq,fx,fs,q⟩:=h;cases ry;rcases hq with hq | hq
 · obtain ⟨its,r,pl,hz⟩:=I.list hq;refine SeqAt.notIn_listAt (eqU x) pl.isList (fun w hw=>mem_eqAt rx fx r fs w (by simpa using hw)) ⟨.bl _,H,I,rfl,?_⟩;rw [show its.toArray.any (eqU x)=its.any (eqU x) by simp,any_eqU r fs];exact q
 · obtain ⟨its,r,pl,hz⟩:=I.tuple hq;refine SeqAt.notIn_tupleAt (eqU x) pl (fun w hw=>mem_eqAt rx fx r fs w (by simpa using hw)) ⟨.bl _,H,I,rfl,?_⟩;rw [show its.toArray.any (eqU x)=its.any (eqU x) by simp,any_eqU r fs];exact q
theorem call_len_seq:CallR X (.builtin "len") (fun xs H Q=>∃ p ys,xs=[.ref p]∧(SqL X.K H p ys∨SqT X.K H p ys)∧Q (.int ys.length) H):=by
 intro pins s σ H xs us Q I r h;obtain ⟨p,ys,rfl,hq,q⟩:=h;obtain ⟨u,rfl,rx⟩:=vals1 r;cases rx;have hn:=line63;rcases hq with hq | hq
 · obtain ⟨its,r',pl,hz⟩:=I.list hq;have hlen:=r'.length;exact Calls.call_len_list pl.isList (by simp only [List.size_toArray] <;> omega) ⟨.int ys.length,H,I.tok _,⟨s.toks+1,by rw [List.size_toArray,hlen]⟩,q⟩
 · obtain ⟨its,r',pl,hz⟩:=I.tuple hq;have hlen:=r'.length;exact len_tuple pl (by simp only [List.size_toArray] <;> omega) ⟨.int ys.length,H,I.tok _,⟨s.toks+1,by rw [List.size_toArray,hlen]⟩,q⟩
theorem call_len_str:CallR X (.builtin "len") (fun xs H Q=>∃ z,xs=[.str z]∧z.length≤sizeLine∧Q (.int z.length) H):=by
 intro pins s σ H xs us Q I r h;obtain ⟨z,rfl,hz,q⟩:=h;obtain ⟨u,rfl,t,rfl⟩:=vals1 r;have hn:=line63;exact len_str (by omega) ⟨.int z.length,H,I.tok _,⟨_,rfl⟩,q⟩
noncomputable def tyV (K:PySem.W.Frag) (T:String) (x:V) (H:Hp):Prop:=match x with
 | .str _=>T = "str"
 | .int _=>T = "int"
 | .ref p=>(T = "list" ∧ ∃ xs,SqL K H p xs)∨(T = "tuple" ∧ ∃ o,K.lookup p=some o∧o.cls = .type "tuple" ∧ o.dict=none) ∨
     (T = "dict" ∧ ((∃ kvs,H p=some (.dK kvs))∨∃ kvs,H p=some (.dT kvs)))∨(T = "set" ∧ ∃ S n,H p=some (.set S n))
 | _=>False
theorem tyV_is {pins:List (Addr × Obj)} {σ:St} {H:Hp} {s:Shared} {T:String} {x:V} {v:Value} (I:Inv X pins σ H s) (r:RelV x v) (ty:tyV X.K T x H) :
   s.TypeIs v T∧∀ a,v = .ref a→∃ ob,s.heap.get? a=some ob∧ob.dict=none:=by
 cases x with
 | str z =>
   obtain ⟨t,rfl⟩:=r;cases (show T = "str" from ty)
   exact ⟨typeIs_str s z t,fun _ e=>nomatch e⟩
 | int i =>
   obtain ⟨t,rfl⟩:=r;cases (show T = "int" from ty)
   exact ⟨typeIs_int s i t,fun _ e=>nomatch e⟩
 | ref p =>
   cases r;rcases ty with ⟨rfl,xs,hq⟩ | ⟨rfl,o,hk,hc,hd⟩ | ⟨rfl,hk⟩ | ⟨rfl,S,n,hk⟩
   · obtain ⟨its,_,pl,_⟩:=I.list hq;refine ⟨pl.isList.typeIs,fun a e=>?_⟩;cases e;obtain ⟨o,n,e,c,hd,_⟩:=pl;exact ⟨o,e,hd⟩
   · refine ⟨⟨o,I.kIn p o hk,hc⟩,fun a e=>?_⟩;cases e;exact ⟨o,I.kIn _ o hk,hd⟩
   · have z:∃ o,s.heap.get? p=some o∧o.ExactDict:=by
       rcases hk with ⟨kvs,hk⟩ | ⟨kvs,hk⟩
       · obtain ⟨_,_,_,_,o,_,_,e,ex,_⟩:=I.hok p _ hk;exact ⟨o,e,ex⟩
       · obtain ⟨_,_,_,_,o,_,_,e,ex,_⟩:=I.hok p _ hk;exact ⟨o,e,ex⟩
     obtain ⟨o,e,ex⟩:=z;refine ⟨⟨o,e,ex.1⟩,fun a e2=>?_⟩;cases e2;exact ⟨o,e,ex.2.1⟩
   · obtain ⟨o,_,_,_,e,ex,_⟩:=I.hok p _ hk;refine ⟨⟨o,e,ex.1⟩,fun a e2=>?_⟩;cases e2
     exact ⟨o,e,ex.2.1⟩
 | _=>exact False.elim ty
noncomputable def tBM0 (K:PySem.W.Frag) (T:String) (r:V→List V→Hp→VK→Prop) (to:TE):TE:=fun σ H Q=>to σ H fun x H1=>tyV K T x H1∧r x [] H1 Q
noncomputable def tBM (K:PySem.W.Frag) (T:String) (r:V→List V→Hp→VK→Prop) (to:TE) (t:TA):TE:=fun σ H Q=>to σ H fun x H1=>tyV K T x H1∧t σ H1 fun xs H2=>r x xs H2 Q
variable {o e:Expr} {es:List Expr} {to:TE} {t:TA} {name:Str} {apos cpos:Pos} {T id:String} {r:V→List V→Hp→VK→Prop}
theorem pe_bm0 (pa:PlainAttrs T) (slot:Slot T name id) (hty:typeOf (.builtin id)=pure (.type "method_descriptor")) (hm:MtR X id r) (ho:PE X o to)
   (hbase:attributeBase o name X.env (eval o X.env)=eval o X.env:=by rfl) (hline:(apos.endLine == cpos.line)=true:=by rfl):PE X (.Call (.Attribute o name apos) [] [] cpos) (tBM0 X.K T r to):=by
 intro pins s σ H Q I h;refine wpAny_Call_method0_late hbase hline (thn (ho pins s σ H _ I h) fun v s1 ⟨x,H1,I1,r1,ty,q1⟩=>?_);obtain ⟨h1,h2⟩:=tyV_is I1 r1 ty;exact ⟨T,id,pa,slot,hty,h1,h2,Calls.callWith_builtin rfl (PySem.evalArgs_none (hm pins s1 σ H1 x [] v [] Q I1 r1 .nil q1))⟩
theorem pe_bm (pa:PlainAttrs T) (slot:Slot T name id) (hty:typeOf (.builtin id)=pure (.type "method_descriptor")) (hm:MtR X id r) (ho:PE X o to) (ha:PA X (e :: es) t)
   (hbase:attributeBase o name X.env (eval o X.env)=eval o X.env:=by rfl)
   (hfew:((backTo cpos (starEach (e :: es) X.env)).all (fun x=>!x.1) && (backToKw cpos (keywordEach [] X.env)).all (fun x=>x.1.isSome)
     && decide ((e :: es).length+([]:List Keyword).length+(if ([]:List Keyword).isEmpty then 0 else 1) < 30))=true:=by rfl)
   (hline:(apos.endLine == cpos.line)=true:=by rfl) (hs:starEach (e :: es) X.env=(false,eval e X.env) :: starEach es X.env:=by rfl) (hplain:(backTo cpos (starEach es X.env)).any (·.1)=false:=by rfl) :
   PE X (.Call (.Attribute o name apos) (e :: es) [] cpos) (tBM X.K T r to t):=by
 intro pins s σ H Q I h;refine wpAny_Call_method_late hbase hfew hline rfl (thn (ho pins s σ H _ I h) fun v s1 ⟨x,H1,I1,r1,ty,q1⟩=>?_);obtain ⟨h1,h2⟩:=tyV_is I1 r1 ty;refine ⟨T,id,pa,slot,hty,h1,h2,?_⟩;have hA:=ha cpos pins s1 σ H1 _ I1 q1;rw [hs] at hA ⊢;refine Calls.callWith_builtin (by show (false || (backTo cpos (starEach es X.env)).any (·.1))=false; rw [hplain] <;> rfl) (Calls.evalArgs_plain ?_);exact thn hA fun us s2 ⟨vs,H2,I2,r2,q2⟩=>hm pins s2 σ H2 x vs v us Q I2 r1 r2 q2
end
end L2
namespace L2
open PySem PySem.Spec PyProof.Rows
noncomputable def MtM (X:Cx) (id:String) (r:V→List V→Hp→VK→Prop):Prop :=
 ∀ (pins:List (Addr × Obj)) (s:Shared) (σ:St) (H:Hp) (x:V) (xs:List V) (v:Value) (us:List Value) (Q:VK),Inv X pins σ H s→RelV x v→Vals xs us→r x xs H Q →
   wpAny (model X.prog X.w) X.A (call (.builtin id) (v :: us)) (EP X pins σ Q) X.xe s
theorem Vals.one:∀ {x:V} {us:List Value},Vals [x] us→∃ u,us=[u]∧RelV x u
 | _,_,.cons r .nil=>⟨_,rfl,r⟩
theorem Vals.zero:∀ {us:List Value},Vals [] us→us=[]
 | _,.nil=>rfl
theorem Vals.dropLast {xs:List V} {us:List Value} (h:Vals xs us):Vals xs.dropLast us.dropLast:=by
 induction h with
 | nil=>exact .nil
 | cons r t ih =>
   cases t with
   | nil=>exact .nil
   | cons q t'=>exact .cons r ih
theorem Vals.eraseIdx:∀ {xs:List V} {us:List Value} (i:Nat),Vals xs us→Vals (xs.eraseIdx i) (us.eraseIdx i)
 | _,_,_,.nil=>.nil
 | _,_,0,.cons _ t=>t
 | _,_,i+1,.cons r t=>.cons r (Vals.eraseIdx i t)
theorem Vals.rep {xs:List V} {us:List Value} (h:Vals xs us):∀ k:Nat,Vals (List.replicate k xs).flatten (List.replicate k us).flatten
 | 0=>.nil
 | k+1=>by
   rw [List.replicate_succ,List.replicate_succ,List.flatten_cons,List.flatten_cons];exact Vals.append h (Vals.rep h k)
theorem erase_last {α:Type} (l:List α):l.eraseIdx (l.length - 1)=l.dropLast:=by
 induction l with
 | nil=>rfl
 | cons a r ih =>
   cases r with
   | nil=>rfl
   | cons b r =>
     have e:(a :: b :: r).length - 1=((b :: r).length - 1)+1:=by
       have h1:(a :: b :: r).length=r.length+2:=rfl;have h2:(b :: r).length=r.length+1:=rfl;omega
     rw [e,List.eraseIdx_cons_succ,ih]
     all_goals rfl
theorem foldl_rep (its:List Value):∀ (k:Nat) (acc:List Value),
   List.foldl (fun x1 x2=>x1++x2) acc.toArray (List.replicate k its.toArray)=(acc++(List.replicate k its).flatten).toArray
 | 0,acc=>by simp
 | k+1,acc=>by
   have e:acc.toArray++its.toArray=(acc++its).toArray:=by simp
   have e2:(acc++its)++(List.replicate k its).flatten=acc++(List.replicate (k+1) its).flatten:=by
     rw [List.replicate_succ,List.flatten_cons,List.append_assoc]
   rw [← e2,← foldl_rep its k (acc++its),← e,List.replicate_succ,List.foldl_cons]
section
variable {X:Cx} {pins:List (Addr × Obj)} {σ:St} {H:Hp} {s:Shared} {l b:Addr} {xs ys zs:List V}
theorem Inv.lset {its its':List Value} {n:Nat} {f:Array Value→Array Value} {t':Nat} (I:Inv X pins σ H s) (hH:H l=some (.lst xs))
   (e:s.heap.get? l=some { cls:=.type "list",data:=.seq its.toArray n }) (hf:f its.toArray=its'.toArray) (hv:Vals ys its') (hz:ys.length≤sizeLine) :
   Inv X pins σ (upd H l (.lst ys)) { s with heap:=s.heap.update l (Obj.mapSeq f),toks:=t' }:=by
 have q:=PySem.IsL.update e f;rw [hf] at q;refine I.write (x:=l) (e:=l) (by rw [hH]; exact trivial) (.inl rfl) (fun b' u hb hu=>(Heap.get?_update_other s.heap (Obj.mapSeq f) (Ne.symm hb)).trans hu) ⟨_,q⟩ ?_;exact ⟨hz,its',_,hv,q⟩
theorem Inv.lnew {its:List Value} {t':Nat} (I:Inv X pins σ H s) (hv:Vals ys its) (hz:ys.length≤sizeLine) :
   Inv X pins σ (upd H s.heap.objs.size (.lst ys)) { s with heap:=s.heap.push { cls:=.type "list",data:=.seq its.toArray },toks:=t' } :=
 I.laid (fun _ _ q=>Heap.get?_push_of_some _ q) (Nat.le_refl _) ⟨hz,its,0,hv,Heap.get?_push_size _ rfl⟩
theorem Inv.fresh (I:Inv X pins σ H s):H s.heap.objs.size=none:=I.hok.fresh (Nat.le_refl _)
theorem Inv.lstM (I:Inv X pins σ H s) (hH:H l=some (.lst xs)):xs.length≤sizeLine∧∃ (its:List Value) (n:Nat),Vals xs its∧xs.length=its.length∧s.heap.get? l=some { cls:=.type "list",data:=.seq its.toArray n }:=by
 obtain ⟨z,its,n,r,e⟩:=I.hok l _ hH;exact ⟨z,its,n,r,r.length,e⟩
theorem notLongL {n:Nat} (h:n≤sizeLine):Builtin.List.listTooLong n=false:=by
 unfold Builtin.List.listTooLong;exact decide_eq_false (by omega)
end
section
variable {X:Cx}
noncomputable def rAppend:V→List V→Hp→VK→Prop:=fun x vs H Q=>∃ l xs y,x = .ref l∧vs=[y]∧H l=some (.lst xs)∧xs.length < sizeLine∧Q .non (upd H l (.lst (xs++[y])))
theorem mt_append:MtM X "list.append" rAppend:=by
 intro pins s σ H x vs v us Q I rx rv h;obtain ⟨l,xs,y,rfl,rfl,hH,hz,q⟩:=h;cases rx;obtain ⟨u,rfl,ru⟩:=rv.one;obtain ⟨z,its,n,r,hl,e⟩:=I.lstM hH;refine call_meets F.slot_list_append ⟨_,e,rfl⟩ F.entry_list_append (F.args_list_append_2 _ _) (PySem.list_append l its.toArray n u (by rw [List.size_toArray]; omega)) ⟨e,?_⟩;refine ⟨.non,_,I.lset (its':=its++[u]) hH e (by simp) (r.append (.cons ru .nil)) ?_,rfl,q⟩;rw [List.length_append,List.length_singleton];omega
noncomputable def rExtend:V→List V→Hp→VK→Prop:=fun x vs H Q=>∃ l b xs zs,x = .ref l∧vs=[.ref b]∧H l=some (.lst xs)∧H b=some (.lst zs)∧xs.length+zs.length≤sizeLine∧Q .non (upd H l (.lst (xs++zs)))
theorem mt_extend:MtM X "list.extend" rExtend:=by
 intro pins s σ H x vs v us Q I rx rv h;obtain ⟨l,b,xs,zs,rfl,rfl,hH,hB,hz,q⟩:=h;cases rx;obtain ⟨u,rfl,ru⟩:=rv.one;cases ru;obtain ⟨z,its,n,r,hl,e⟩:=I.lstM hH;obtain ⟨z2,its2,n2,r2,hl2,e2⟩:=I.lstM hB;have hsz:its.toArray.size+its2.toArray.size≤sizeLine:=by rw [List.size_toArray,List.size_toArray]; omega
 have hlong:¬ (!its.toArray.isEmpty && Builtin.List.listTooLong (its.toArray.size+its2.toArray.size))=true:=by
   rw [notLongL hsz,Bool.and_false];exact Bool.false_ne_true
 refine call_meets F.slot_list_extend ⟨_,e,rfl⟩ F.entry_list_extend (F.args_list_extend_2 _ _)
   (AutoSeq1.list_extend_list_list_0 l its.toArray n b its2.toArray n2 hlong (by rw [List.size_toArray]; omega) (by omega)) ⟨e,e2,?_⟩
 refine ⟨.non,_,I.lset (its':=its++its2) hH e (by simp) (r.append r2) ?_,rfl,q⟩;rw [List.length_append];omega
noncomputable def rPop:V→List V→Hp→VK→Prop:=fun x vs H Q=>∃ l xs y,x = .ref l∧vs=[]∧H l=some (.lst xs)∧xs[xs.length - 1]? = some y∧Q y (upd H l (.lst xs.dropLast))
theorem mt_pop:MtM X "list.pop" rPop:=by
 intro pins s σ H x vs v us Q I rx rv h;obtain ⟨l,xs,y,rfl,rfl,hH,hy,q⟩:=h;cases rx;have hus:=rv.zero;subst hus;obtain ⟨z,its,n,r,hl,e⟩:=I.lstM hH;obtain ⟨u,hu,ru⟩:=r.get hy
 have hy':its.toArray[its.toArray.size - 1]? = some u:=by
   show its.toArray[its.length - 1]? = some u;rw [← Array.getElem?_toList,← hl];exact hu
 refine call_meets F.slot_list_pop ⟨_,e,rfl⟩ F.entry_list_pop (F.args_list_pop_1 _) (MeetsSeq.list_pop_last l its.toArray n u hy' (by rw [List.size_toArray]; omega)) ⟨e,?_⟩;refine ⟨y,_,I.lset (its':=its.dropLast) hH e ?_ r.dropLast ?_,ru,q⟩
 · show its.toArray.eraseIdxIfInBounds (its.toArray.size - 1)=its.dropLast.toArray;rw [List.size_toArray,List.eraseIdxIfInBounds_toArray,erase_last]
 · rw [List.length_dropLast];omega
noncomputable def rCat:R2:=fun x y H Q=>∃ l b xs zs,x = .ref l∧y = .ref b∧H l=some (.lst xs)∧H b=some (.lst zs)∧xs.length+zs.length≤sizeLine∧∀ p,H p=none→Q (.ref p) (upd H p (.lst (xs++zs)))
theorem op_cat:OpR X (binaryOp .Add) rCat:=by
 intro pins s σ H x y v u Q I rx ry h;obtain ⟨l,b,xs,zs,rfl,rfl,hH,hB,hz,q⟩:=h;cases rx;cases ry;obtain ⟨z,its,n,r,hl,e⟩:=I.lstM hH;obtain ⟨z2,its2,n2,r2,hl2,e2⟩:=I.lstM hB;refine PySem.P.add_list e e2 ?_ (by rw [List.size_toArray,List.size_toArray]; omega);have ea:its.toArray++its2.toArray=(its++its2).toArray:=by simp
 rw [ea];exact ⟨.ref _,_,I.lnew (t':=s.toks) (r.append r2) (by rw [List.length_append]; omega),rfl,q _ I.fresh⟩
noncomputable def rRep:R2:=fun x y H Q=>∃ l k xs,x = .ref l∧y = .int k∧H l=some (.lst xs)∧-(2 ^ 63)≤k∧k < 2 ^ 63∧xs.length*k.toNat≤sizeLine ∧
 ∀ p,H p=none→Q (.ref p) (upd H p (.lst (List.replicate k.toNat xs).flatten))
theorem len_rep {α:Type} (xs:List α) (k:Nat):(List.replicate k xs).flatten.length=k*xs.length:=by
 induction k with
 | zero=>simp
 | succ k ih=>rw [List.replicate_succ,List.flatten_cons,List.length_append,ih,Nat.succ_mul,Nat.add_comm]
theorem op_rep:OpR X (binaryOp .Mult) rRep:=by
 intro pins s σ H x y v u Q I rx ry h;obtain ⟨l,k,xs,rfl,rfl,hH,h1,h2,hz,q⟩:=h;cases rx;obtain ⟨t,rfl⟩:=ry;obtain ⟨z,its,n,r,hl,e⟩:=I.lstM hH;have hlen:its.toArray.size*k.toNat≤sizeLine:=by rw [List.size_toArray,← hl]; exact hz
 have hcap:¬ its.toArray.size*k.toNat > (2 ^ 63 - 1) / 8:=by
   have:(sizeLine:Nat)≤(2 ^ 63 - 1) / 8:=by decide
   omega
 have hfit:¬ (!Builtin.List.listFitsIndex k)=true:=by
   rw [fitsIndex_both h1 h2];exact Bool.false_ne_true
 have hlong:¬ Builtin.List.listTooLong (its.toArray.size*k.toNat)=true:=by
   rw [notLongL hlen];exact Bool.false_ne_true
 have hnew:List.foldl (fun x1 x2=>x1++x2) #[] (List.replicate (if its.toArray.isEmpty=true then 0 else k.toNat) its.toArray)=(List.replicate k.toNat its).flatten.toArray:=by
   have f0:∀ m:Nat,List.foldl (fun x1 x2=>x1++x2) #[] (List.replicate m its.toArray)=(List.replicate m its).flatten.toArray:=fun m=>by
     have:=foldl_rep its m [];rw [List.nil_append] at this;exact this
   rw [f0]
   cases its with
   | nil=>simp
   | cons a r'=>rw [if_neg (by simp)]
 refine wpAny_binaryOp_repeat_ref (T := "list") (U := "int") (by decide) ⟨_,e,rfl⟩ (fun s'=>typeIs_int s' k t) noFill_list_mul F.fills_int_mul F.slot_int_rmul repeat_list F.slot_int_index.lookup
   (call_meets F.slot_int_rmul (typeIs_int s k t) F.entry_int_rmul (F.args_int_rmul_2 _ _) (int___rmul___int_list k t l its.toArray n)
     ⟨e,rfl,⟨_,e,rfl⟩,call_meets F.slot_list_mul ⟨_,e,rfl⟩ F.entry_list_mul (F.args_list_mul_2 _ _) (AutoListH.list___mul___list_int_3 l its.toArray n k t hfit hcap hlong) ⟨e,?_⟩⟩)
 rw [hnew];exact ⟨.ref _,_,I.lnew (t':=s.toks) (r.rep k.toNat) (by rw [len_rep,Nat.mul_comm]; exact hz),rfl,q _ I.fresh⟩
end
section
variable {prog:Program} {w:World} {A:Around} {E:Value→Shared→Prop} {s:Shared}
end
section
variable {X:Cx}
end
end L2
namespace L2
open PySem PySem.Spec PyProof.Rows
theorem Vals.strs:∀ {xs:List Str} {us:List Value},Vals (xs.map V.str) us→StrsAre us xs
 | [],us,h=>by
   rw [List.map_nil] at h;cases h
   exact StrsAre.nil
 | x :: xs,us,h=>by
   rw [List.map_cons] at h
   cases h with
   | cons r t =>
     obtain ⟨k,rfl⟩:=r;exact StrsAre.cons x k (Vals.strs t)
theorem Vals.bls:∀ {bs:List Bool} {us:List Value},Vals (bs.map V.bl) us→us=bs.map Value.bool
 | [],us,h=>by
   rw [List.map_nil] at h;cases h
   rfl
 | b :: bs,us,h=>by
   rw [List.map_cons] at h
   cases h with
   | cons r t =>
     cases r;rw [Vals.bls t,List.map_cons]
theorem Vals.ref1 {a:Addr} {us:List Value} (r:Vals [V.ref a] us):us=[Value.ref a]:=by
 cases r with
 | cons r t =>
   cases t;cases r;rfl
section
variable {prog:Program} {w:World} {A:Around} {E:Value→Shared→Prop} {s:Shared} {l:Addr} {its:List Value} {ns:List Int} {Q:Value→Shared→Prop}
end
section
variable {X:Cx}
end
section
variable {X:Cx}
end
section
variable {X:Cx}
end
theorem iter_any {prog:Program} {w:World} {A:Around} {E:Value→Shared→Prop} {s:Shared} {l:Addr} {items:Array Value} {Q:Value→Shared→Prop} (hl:s.heap.IsList l items)
   (h:∀ s₂:Shared,s₂ = { s with heap:=s.heap.push { cls:=.type "list_iterator",data:=.fields #[.ref l,.int 0 0] } } →
     (s₂.heap.IsListIter s.heap.objs.size l 0∧s₂.heap.IsList l items)→l≠s.heap.objs.size→Q (.ref s.heap.objs.size) s₂):wpAny (model prog w) A (pyIter (.ref l)) Q E s:=by
 have hlt:l < s.heap.objs.size:=by obtain ⟨_,e,_⟩:=hl; exact Heap.lt_size e
 exact wpAny_pyIter_list hl (h _ rfl ⟨⟨_,Heap.get?_push_size _ rfl,rfl,rfl⟩,hl.push _⟩ (Nat.ne_of_lt hlt))
theorem truth_bools {prog:Program} {w:World} {A:Around} {bs:List Bool} {its:List Value} (e:its=bs.map Value.bool) :
   TruthOf prog w A (fun i v=>its.toArray[i]? = some v) (fun i=>bs.getD i false):=fun i v s Q E hv hq=>by
 have hv':its[i]? = some v:=by simpa using hv
 rw [e,List.getElem?_map] at hv';obtain ⟨b,hb,rfl⟩:=Option.map_eq_some_iff.mp hv';have hg:bs.getD i false=b:=by rw [List.getD_eq_getElem?_getD,hb] <;> rfl
 have hq':Q (bs.getD i false) s:=hq;rw [hg] at hq';exact wpAny_truthy_bool hq'
theorem any_range:∀ bs:List Bool,(List.range bs.length).any (fun i=>bs.getD i false)=bs.any id
 | []=>rfl
 | b :: bs=>by
   rw [List.length_cons,List.range_succ_eq_map,List.any_cons,List.any_map,List.any_cons,← any_range bs]
   all_goals rfl
theorem all_range:∀ bs:List Bool,(List.range bs.length).all (fun i=>bs.getD i false)=bs.all id
 | []=>rfl
 | b :: bs=>by
   rw [List.length_cons,List.range_succ_eq_map,List.all_cons,List.all_map,List.all_cons,← all_range bs]
   all_goals rfl
section
variable {X:Cx}
noncomputable def rAny (K:PySem.W.Frag):List V→Hp→VK→Prop:=fun vs H Q=>∃ (a:Addr) (bs:List Bool),vs=[V.ref a]∧SqL K H a (bs.map V.bl)∧Q (.bl (bs.any id)) H
noncomputable def rAll (K:PySem.W.Frag):List V→Hp→VK→Prop:=fun vs H Q=>∃ (a:Addr) (bs:List Bool),vs=[V.ref a]∧SqL K H a (bs.map V.bl)∧Q (.bl (bs.all id)) H
theorem cr_any (hc:X.calm=true):CallR X (.builtin "any") (rAny X.K):=by
 intro pins s σ H vs us Q I r h;obtain ⟨a,bs,rfl,hs,q⟩:=h;obtain ⟨its,rv,hl,_⟩:=I.list hs;rw [Vals.ref1 r];have hb:=rv.bls;refine call_any_walk (iter_any hl.isList fun s₂ e2 st hne=>?_);subst e2;refine ⟨_,_,_,_,_,_,_,rfl,Walks.list (A:=X.A.in1) (I.ok.hd hc) _ a hne its.toArray,st,truth_bools hb,fun h' tk hk=>?_⟩;refine ⟨.bl _,H,I.kept fun b o eo=>hk b o (fun hmem=>?_) (Heap.get?_push_of_some _ eo),?_,q⟩
 · rcases List.mem_cons.mp hmem with e1 | hmem
   · exact absurd (e1 ▸ Heap.lt_size eo) (Nat.lt_irrefl _)
   · cases hmem
 · show Value.bool _=Value.bool _;rw [← any_range,hb,List.size_toArray,List.length_map]
theorem cr_all (hc:X.calm=true):CallR X (.builtin "all") (rAll X.K):=by
 intro pins s σ H vs us Q I r h;obtain ⟨a,bs,rfl,hs,q⟩:=h;obtain ⟨its,rv,hl,_⟩:=I.list hs;rw [Vals.ref1 r];have hb:=rv.bls;refine call_all_walk (iter_any hl.isList fun s₂ e2 st hne=>?_);subst e2;refine ⟨_,_,_,_,_,_,_,rfl,Walks.list (A:=X.A.in1) (I.ok.hd hc) _ a hne its.toArray,st,truth_bools hb,fun h' tk hk=>?_⟩;refine ⟨.bl _,H,I.kept fun b o eo=>hk b o (fun hmem=>?_) (Heap.get?_push_of_some _ eo),?_,q⟩
 · rcases List.mem_cons.mp hmem with e1 | hmem
   · exact absurd (e1 ▸ Heap.lt_size eo) (Nat.lt_irrefl _)
   · cases hmem
 · show Value.bool _=Value.bool _;rw [← all_range,hb,List.size_toArray,List.length_map]
end
mutual
inductive Dp (K:PySem.W.Frag) (H:Hp):V→PyData→Prop
 | non:Dp K H .non .none
 | bl (b:Bool):Dp K H (.bl b) (.bool b)
 | int (i:Int):Dp K H (.int i) (.int i)
 | str (x:Str):Dp K H (.str x) (.str x)
 | lst {a:Addr} {xs:List V} {ds:List PyData}:SqL K H a xs→DpAll K H xs ds→Dp K H (.ref a) (.list ds)
 | tup {a:Addr} {xs:List V} {ds:List PyData}:SqT K H a xs→DpAll K H xs ds→Dp K H (.ref a) (.tuple ds)
inductive DpAll (K:PySem.W.Frag) (H:Hp):List V→List PyData→Prop
 | nil:DpAll K H [] []
 | cons {v:V} {vs:List V} {d:PyData} {ds:List PyData}:Dp K H v d→DpAll K H vs ds→DpAll K H (v :: vs) (d :: ds)
end
section
variable {X:Cx} {pins:List (Addr × Obj)} {σ:St} {H:Hp} {s:Shared}
mutual
theorem Dp.reads (I:Inv X pins σ H s):∀ (d:PyData) (v:V) (u:Value),Dp X.K H v d→RelV v u→∃ as,Reads s.heap u d as
 | .none,_,_,h,r=>by
   cases h;cases r
   exact ⟨_,Reads.none⟩
 | .bool b,_,_,h,r=>by
   cases h;cases r
   exact ⟨_,Reads.bool b⟩
 | .int i,_,_,h,r=>by
   cases h;obtain ⟨t,rfl⟩:=r
   exact ⟨_,Reads.int i t⟩
 | .str x,_,_,h,r=>by
   cases h;obtain ⟨t,rfl⟩:=r
   exact ⟨_,Reads.str x t⟩
 | .list ds,_,_,h,r=>by
   cases h with
   | lst hs ha =>
     cases r;obtain ⟨its,rv,⟨o,n,ho,hc,_,hd⟩,_⟩:=I.list hs;obtain ⟨as,hr⟩:=Dp.readsAll I ds _ its ha rv
     exact ⟨_,Reads.list ho hc hd hr⟩
 | .tuple ds,_,_,h,r=>by
   cases h with
   | tup hs ha =>
     cases r;obtain ⟨its,rv,⟨o,ho,hc,n,hd⟩,_⟩:=I.tuple hs;obtain ⟨as,hr⟩:=Dp.readsAll I ds _ its ha rv
     exact ⟨_,Reads.tuple ho hc hd hr⟩
 | .dict _,_,_,h,_=>by cases h
theorem Dp.readsAll (I:Inv X pins σ H s):∀ (ds:List PyData) (vs:List V) (us:List Value),DpAll X.K H vs ds→Vals vs us→∃ as,ReadsAll s.heap us ds as
 | [],_,_,h,r=>by
   cases h;cases r
   exact ⟨_,ReadsAll.nil⟩
 | d :: ds,_,_,h,r=>by
   cases h with
   | cons h1 h2 =>
     cases r with
     | cons r1 r2 =>
       obtain ⟨as,q1⟩:=Dp.reads I d _ _ h1 r1;obtain ⟨bs,q2⟩:=Dp.readsAll I ds _ _ h2 r2;exact ⟨_,ReadsAll.cons q1 q2⟩
end
end
section
variable {X:Cx}
end
end L2
namespace L2
open PySem PySem.Spec PyProof.Rows
noncomputable abbrev CellAt (h:Heap) (c:Addr) (v:Option Value):Prop:=h.IsCell c v
noncomputable def relS (scope sc:Scope):Scope :=
 { scope with names:=scope.names.map fun (n,k)=>if (k == .free && sc.kind == .function && sc.names.lookup n == some .cell) then (n,.cell) else (n,k) }
noncomputable def cloFrom (cells:List (Str × Addr)):List (Str × NameKind)→List (Str × Addr)→List (Str × Addr)
 | [],acc=>acc
 | (n,k) :: r,acc=>if k == .free then cloFrom cells r ((n,(cells.lookup n).getD 0) :: acc) else cloFrom cells r acc
theorem closure_loop (env:Env) (f:Str × NameKind→List (Str × Addr)→Sem (ForInStep (List (Str × Addr))))
   (hf:∀ n k c,f (n,k) c=if k == .free then (do let a ← cellOf env n; pure (.yield ((n,a) :: c))) else pure (.yield c)) :
   ∀ (names:List (Str × NameKind)) (acc:List (Str × Addr)),(∀ y∈names,y.2 = .free→∃ c,env.cells.lookup y.1=some c)→forIn names acc f=pure (cloFrom env.cells names acc)
 | [],acc,_=>by rw [List.forIn_nil]; rfl
 | (n,k) :: r,acc,h=>by
   rw [List.forIn_cons,hf];have ih:=fun acc=>closure_loop env f hf r acc fun y hy=>h y (List.mem_cons_of_mem _ hy);unfold cloFrom;by_cases hk:(k == NameKind.free)=true
   · rw [if_pos hk,if_pos hk];obtain ⟨c,hc⟩:=h (n,k) List.mem_cons_self (by simpa using hk);have e:cellOf env n=pure c:=by unfold cellOf; rw [hc]
     rw [e];have e2:(env.cells.lookup n).getD 0=c:=by rw [hc]; rfl
     rw [e2];exact ih _
   · rw [if_neg hk,if_neg hk];exact ih _
theorem closure_ok {scope:Scope} {env:Env} (h:∀ y∈scope.names,y.2 = .free→∃ c,env.cells.lookup y.1=some c):closureFor scope env=pure (cloFrom env.cells scope.names []):=by
 simp only [closureFor];rw [closure_loop env _ (fun n k c=>rfl) scope.names [] h];rfl
theorem mem_lookup {α:Type}:∀ {l:List (Str × α)} {n:Str} {c:α},(n,c)∈l→∃ c',l.lookup n=some c'
 | (k,v) :: r,n,c,h=>by
   rw [List.lookup_cons]
   cases hb:n == k with
   | true=>exact ⟨_,rfl⟩
   | false =>
     rcases List.mem_cons.mp h with e | h
     · cases e; simp at hb
     · exact mem_lookup h
theorem cloFrom_mem {cells:List (Str × Addr)}:∀ {names:List (Str × NameKind)} {acc:List (Str × Addr)} {n:Str} {c:Addr},(n,c)∈cloFrom cells names acc→(n,c)∈acc∨((n,.free)∈names∧c=(cells.lookup n).getD 0)
 | [],_,_,_,h=>.inl h
 | (m,k) :: r,acc,n,c,h=>by
   unfold cloFrom at h;split at h
   · rename_i hk
     have hk:k = .free:=by simpa using hk
     rcases cloFrom_mem h with h | ⟨h1,h2⟩
     · rcases List.mem_cons.mp h with e | h
       · cases e; exact .inr ⟨hk ▸ List.mem_cons_self,rfl⟩
       · exact .inl h
     · exact .inr ⟨List.mem_cons_of_mem _ h1,h2⟩
   · rcases cloFrom_mem h with h | ⟨h1,h2⟩
     · exact .inl h
     · exact .inr ⟨List.mem_cons_of_mem _ h1,h2⟩
theorem cloFrom_acc {cells:List (Str × Addr)}:∀ {names:List (Str × NameKind)} {acc:List (Str × Addr)} {p:Str × Addr},p∈acc→p∈cloFrom cells names acc
 | [],_,_,h=>h
 | (m,k) :: r,acc,p,h=>by
   unfold cloFrom;split
   · exact cloFrom_acc (List.mem_cons_of_mem _ h)
   · exact cloFrom_acc h
theorem cloFrom_has {cells:List (Str × Addr)}:∀ {names:List (Str × NameKind)} {acc:List (Str × Addr)} {n:Str},(n,.free)∈names→(n,(cells.lookup n).getD 0)∈cloFrom cells names acc
 | (m,k) :: r,acc,n,h=>by
   unfold cloFrom;rcases List.mem_cons.mp h with e | h
   · cases e;exact cloFrom_acc List.mem_cons_self
   · split
     · exact cloFrom_has h
     · exact cloFrom_has h
theorem cells_mem:∀ {names:List (Str × NameKind)} {h:Heap} {acc:List (Str × Addr)} {x:Str} {c:Addr},(x,c)∈cellsFrom h.objs.size names acc →
   (x,c)∈acc∨((x,.cell)∈names∧h.objs.size≤c∧CellAt (pushCells h names) c none)
 | [],_,_,_,_,h=>.inl h
 | (n,k) :: r,h,acc,x,c,hm=>by
   unfold cellsFrom at hm;unfold pushCells;split at hm
   · rename_i hk
     rw [if_pos hk];have hk:k = .cell:=by simpa using hk
     rw [← Heap.size_push h { cls:=.type "cell",data:=.cell none }] at hm;rcases cells_mem hm with hm | ⟨h1,h2,h3⟩
     · rcases List.mem_cons.mp hm with e | hm
       · cases e;exact .inr ⟨hk ▸ List.mem_cons_self,Nat.le_refl _,_,pushCells_keeps r _ _ _ (Heap.get?_push_size _ rfl),rfl⟩
       · exact .inl hm
     · rw [Heap.size_push] at h2;exact .inr ⟨List.mem_cons_of_mem _ h1,Nat.le_of_succ_le h2,h3⟩
   · rename_i hk
     rw [if_neg hk];rcases cells_mem hm with hm | ⟨h1,h2,h3⟩
     · exact .inl hm
     · exact .inr ⟨List.mem_cons_of_mem _ h1,h2,h3⟩
theorem cells_acc:∀ {names:List (Str × NameKind)} {n:Nat} {acc:List (Str × Addr)} {p:Str × Addr},p∈acc→p∈cellsFrom n names acc
 | [],_,_,_,h=>h
 | (m,k) :: r,n,acc,p,h=>by
   unfold cellsFrom;split
   · exact cells_acc (List.mem_cons_of_mem _ h)
   · exact cells_acc h
theorem cells_has:∀ {names:List (Str × NameKind)} {n:Nat} {acc:List (Str × Addr)} {x:Str},(x,.cell)∈names→∃ c,(x,c)∈cellsFrom n names acc
 | (m,k) :: r,n,acc,x,h=>by
   unfold cellsFrom;rcases List.mem_cons.mp h with e | h
   · cases e;exact ⟨n,cells_acc List.mem_cons_self⟩
   · split
     · exact cells_has h
     · exact cells_has h
theorem cells_inj:∀ {names:List (Str × NameKind)} {h:Heap} {acc:List (Str × Addr)} {x y:Str} {c:Addr},(∀ p∈acc,p.2 < h.objs.size)→(∀ x y c,(x,c)∈acc→(y,c)∈acc→x=y) →
   (x,c)∈cellsFrom h.objs.size names acc→(y,c)∈cellsFrom h.objs.size names acc→x=y
 | [],_,_,_,_,_,_,hi,h1,h2=>hi _ _ _ h1 h2
 | (n,k) :: r,h,acc,x,y,c,hl,hi,h1,h2=>by
   unfold cellsFrom at h1 h2;split at h1
   · rename_i hk
     rw [if_pos hk] at h2;rw [← Heap.size_push h { cls:=.type "cell",data:=.cell none }] at h1 h2;refine cells_inj (h:=h.push _) (fun p hp=>?_) (fun x y c a b=>?_) h1 h2
     · rw [Heap.size_push];rcases List.mem_cons.mp hp with rfl | hp
       · exact Nat.lt_succ_self _
       · exact Nat.lt_succ_of_lt (hl p hp)
     · rcases List.mem_cons.mp a with e | a <;> rcases List.mem_cons.mp b with e' | b
       · cases e; cases e'; rfl
       · cases e; exact absurd (hl _ b) (Nat.lt_irrefl _)
       · cases e'; exact absurd (hl _ a) (Nat.lt_irrefl _)
       · exact hi _ _ _ a b
   · rename_i hk
     rw [if_neg hk] at h2;exact cells_inj hl hi h1 h2
theorem newEnv_comp {M:Model} {A:Around} {E:Value→Shared→Prop} {s:Shared} {scope:Scope} {globals:Addr} {closure:List (Str × Addr)} {qual:Str} {func:Option Addr} {code:Value} {around:Env} {builtins:Addr} {Q:Env→Shared→Prop}
   (h:Q (newEnv scope s.heap.objs.size globals (cellsFrom (s.heap.objs.size+1) scope.names closure) qual func code (some around) builtins)
     { s with heap:=pushCells (s.heap.push { cls:=.type "dict",data:=.dict #[] }) scope.names }) :
   wpAny M A (newFunctionEnv scope globals closure [] qual func code (some around) builtins) Q E s:=by
 simp only [newFunctionEnv,Option.isSome_some,if_true];refine wpAny_bind (wpAny_alloc ?_);refine wpAny_bind (wpAny_layCells _ (fun n k c=>rfl) scope.names closure _ _ ?_);rw [show ({ s with heap:=s.heap.push { cls:=.type "dict",data:=.dict #[] } }:Shared).heap.objs.size=s.heap.objs.size+1 from Heap.size_push ..];rw [List.forIn_nil];exact wpAny_bind (wpAny_pure (wpAny_pure h))
theorem lookup_relS {sc:Scope}:∀ {names:List (Str × NameKind)} {x:Str} {k:NameKind},
   (names.map fun (n,k)=>if (k == NameKind.free && sc.kind == .function && sc.names.lookup n == some .cell) then (n,NameKind.cell) else (n,k)).lookup x=some k →
   ∃ k',names.lookup x=some k'∧(k=k'∨(k' = .free∧k = .cell))
 | [],_,_,h=>by simp at h
 | (n,k₀) :: r,x,k,h=>by
   have ih:=@lookup_relS sc r x k;have h':List.lookup x ((if (k₀ == NameKind.free && sc.kind == .function && sc.names.lookup n == some .cell)=true then (n,NameKind.cell) else (n,k₀)) :: (r.map _))=some k:=h
   cases hx:x == n with
   | true =>
     simp only [List.lookup_cons,hx];by_cases hc:(k₀ == NameKind.free && sc.kind == .function && sc.names.lookup n == some .cell)=true
     · rw [if_pos hc] at h';simp only [List.lookup_cons,hx] at h';cases h';simp only [Bool.and_eq_true,beq_iff_eq] at hc;exact ⟨k₀,rfl,.inr ⟨hc.1.1,rfl⟩⟩
     · rw [if_neg hc] at h';simp only [List.lookup_cons,hx] at h';cases h'
       exact ⟨_,rfl,.inl rfl⟩
   | false =>
     simp only [List.lookup_cons,hx];by_cases hc:(k₀ == NameKind.free && sc.kind == .function && sc.names.lookup n == some .cell)=true
     · rw [if_pos hc] at h';simp only [List.lookup_cons,hx] at h';exact ih h'
     · rw [if_neg hc] at h';simp only [List.lookup_cons,hx] at h';exact ih h'
structure BlkOk (N:List Str) (sc scope:Scope) (own:List (Str × Nat)):Prop where
 kind:scope.kind = .function
 uniq:∀ y∈scope.names,scope.names.lookup y.1=some y.2
 ix:∀ p∈own,N[p.2]? = some p.1
 free:∀ y∈scope.names,y.2 = .free→sc.names.lookup y.1=some .cell∨sc.names.lookup y.1=some .free
 own:∀ y∈scope.names,y.2 = .local∨y.2 = .cell→y.1∈own.map (·.1)∨y.1 ∉ N
noncomputable def wipe (σ:St):List Nat→St
 | []=>σ
 | v :: vs=>(wipe σ vs).set v none
theorem wipe_length (σ:St):∀ vs:List Nat,(wipe σ vs).length=σ.length
 | []=>rfl
 | v :: vs=>by unfold wipe; rw [List.length_set,wipe_length σ vs]
theorem wipe_some {σ:St} {i:Nat} {x:V}:∀ {vs:List Nat},(wipe σ vs)[i]? = some (some x)→σ[i]? = some (some x)∧i ∉ vs
 | [],h=>⟨h,by simp⟩
 | v :: vs,h=>by
   unfold wipe at h;by_cases hi:v=i
   · subst hi;by_cases hv:v < (wipe σ vs).length
     · rw [List.getElem?_set_self hv] at h; cases h
     · rw [List.getElem?_eq_none (by simpa using hv)] at h; cases h
   · rw [List.getElem?_set_ne hi] at h;obtain ⟨h1,h2⟩:=wipe_some h;exact ⟨h1,by simp only [List.mem_cons,not_or]; exact ⟨fun e=>hi e.symm,h2⟩⟩
noncomputable abbrev Cx.blk (X:Cx) (s:Shared) (H:Hp) (scope:Scope) (cenv:Env) (fp:List Addr):Cx:={ X with s_0:=s,H_0:=H,env:=cenv,outer:=X.stack,ex:=fp,fn:=fun x=>scope.names.lookup x == some .cell,pn:=[],xe:=fun _ _=>False }
section
variable {X:Cx} {pins:List (Addr × Obj)} {σ:St} {H:Hp} {s:Shared}
theorem block_start {scope:Scope} {own:List (Str × Nat)} {fp:List Addr} (I:Inv X pins σ H s) (ok:BlkOk X.N X.env.scope scope own) (hN:X.N.Nodup) (hfp:∀ b∈fp,FpOk X pins H b∧b < s.heap.objs.size) :
   Inv (X.blk s H scope (compEnvC scope (cellsFrom (s.heap.objs.size+1) scope.names (cloFrom X.env.cells scope.names [])) s.heap.objs.size X.env) fp) [] (wipe σ (own.map (·.2))) H { s with heap:=pushCells (s.heap.push { cls:=.type "dict",data:=.dict #[] }) scope.names }:=by
 have hfree:∀ y∈scope.names,y.2 = .free→∃ c,X.env.cells.lookup y.1=some c:=fun y hy e=>by
   rcases ok.free y hy e with k | k
   · exact I.ok.has _ (.inl k)
   · exact I.ok.has _ (.inr k)
 generalize hcenv:compEnvC scope (cellsFrom (s.heap.objs.size+1) scope.names (cloFrom X.env.cells scope.names [])) s.heap.objs.size X.env=cenv;have kp:∀ b o,s.heap.get? b=some o→(pushCells (s.heap.push { cls:=.type "dict",data:=.dict #[] }) scope.names).get? b=some o:=fun b o e=>pushCells_keeps _ _ _ _ (Heap.get?_push_of_some _ e);have hL:cenv.locals=s.heap.objs.size:=by rw [← hcenv]; rfl
 have hcl:cenv.cells=cellsFrom (s.heap.objs.size+1) scope.names (cloFrom X.env.cells scope.names []):=by rw [← hcenv]; rfl
 have hsc:cenv.scope=relS scope X.env.scope:=by rw [← hcenv]; rfl
 rw [← Heap.size_push s.heap { cls:=.type "dict",data:=.dict #[] }] at hcl
 have cm:∀ {y c},(y,c)∈cloFrom X.env.cells scope.names []→X.env.cells.lookup y=some c∧c < s.heap.objs.size:=fun {y c} hm=>by
   rcases cloFrom_mem hm with hm | ⟨h1,rfl⟩
   · cases hm
   · obtain ⟨c,hc⟩:=hfree _ h1 rfl;rw [hc];obtain ⟨w,z⟩:=I.cell _ _ hc;exact ⟨rfl,z.lt⟩
 have mem:∀ {y c},cenv.cells.lookup y=some c→(X.env.cells.lookup y=some c∧c < s.heap.objs.size)∨(s.heap.objs.size+1≤c∧CellAt (pushCells (s.heap.push { cls:=.type "dict",data:=.dict #[] }) scope.names) c none):=fun {y c} e=>by
   rw [hcl] at e;rcases cells_mem (PySem.mem_of_lookup e) with hm | ⟨_,h2,h3⟩
   · exact .inl (cm hm)
   · rw [Heap.size_push] at h2; exact .inr ⟨h2,h3⟩
 have look:∀ {y},scope.names.lookup y=some .free→∃ c,cenv.cells.lookup y=some c∧X.env.cells.lookup y=some c:=fun {y} hl=>by
   have hy:(y,NameKind.free)∈scope.names:=PySem.mem_of_lookup hl;obtain ⟨c',e'⟩:=mem_lookup (cells_acc (names:=scope.names) (n:=(s.heap.push { cls:=.type "dict",data:=.dict #[] }).objs.size) (cloFrom_has (cells:=X.env.cells) (acc:=[]) hy));rw [← hcl] at e';refine ⟨c',e',?_⟩;rw [hcl] at e';rcases cells_mem (PySem.mem_of_lookup e') with hm | ⟨h1,_,_⟩
   · exact (cm hm).1
   · have:=ok.uniq _ h1;rw [hl] at this; cases this
 have okB:(X.blk s H scope cenv fp).Ok:=by
   refine ⟨I.ok.mod,by show cenv.scope.kind=_; rw [hsc]; exact ok.kind,by show cenv.globals=_; rw [← hcenv]; exact I.ok.glob,by show cenv.builtins=_; rw [← hcenv]; exact I.ok.blt,by show s.heap.objs.size≤cenv.locals; rw [hL]; exact Nat.le_refl _,
     fun y z c e1 e2=>?_,fun y hy=>?_,fun y c z e=>?_,I.ok.hd,I.ok.frames,.inl rfl,fun b hb=>⟨?_,fun y c e z=>?_⟩,I.bs,Nat.le_trans I.ok.bsz I.sz,fun b o e hb=>?_,fun b hb z=>?_,I.stack,I.stkFree⟩
   · have e1:cenv.cells.lookup y=some c:=e1;have e2:cenv.cells.lookup z=some c:=e2;rw [hcl] at e1 e2;refine cells_inj (fun p hp=>?_) (fun y z c a b=>I.ok.inj y z c (cm a).1 (cm b).1) (PySem.mem_of_lookup e1) (PySem.mem_of_lookup e2);rw [Heap.size_push];exact Nat.lt_succ_of_lt (cm (y:=p.1) (c:=p.2) hp).2
   · show ∃ c,cenv.cells.lookup y=some c
     have key:∀ k,cenv.kindOf y=some k→(k = .cell∨k = .free)→∃ c,cenv.cells.lookup y=some c:=fun k hk hk'=>by
       unfold Env.kindOf at hk;rw [hsc] at hk;obtain ⟨k',e,r⟩:=lookup_relS hk
       have:k' = .cell∨k' = .free:=by
         rcases r with rfl | ⟨rfl,_⟩
         · exact hk'
         · exact .inr rfl
       rcases this with rfl | rfl
       · obtain ⟨c,hm⟩:=cells_has (n:=(s.heap.push { cls:=.type "dict",data:=.dict #[] }).objs.size) (acc:=cloFrom X.env.cells scope.names []) (PySem.mem_of_lookup e);obtain ⟨c',e'⟩:=mem_lookup hm;exact ⟨c',by rw [hcl]; exact e'⟩
       · obtain ⟨c,h1,_⟩:=look e;exact ⟨c,h1⟩
     rcases hy with hy | hy
     · exact key _ hy (.inl rfl)
     · exact key _ hy (.inr rfl)
   · have z:(scope.names.lookup y == some NameKind.cell)=true:=z;have z:scope.names.lookup y=some .cell:=by simpa using z
     have e:cenv.cells.lookup y=some c:=e;rw [hcl] at e;rcases cells_mem (PySem.mem_of_lookup e) with hm | ⟨_,h2,_⟩
     · rcases cloFrom_mem hm with hm | ⟨h1,_⟩
       · cases hm
       · have q:=ok.uniq _ h1;rw [z] at q; cases q
     · rw [Heap.size_push] at h2;exact Nat.le_of_succ_le h2
   · show b≠cenv.locals;rw [hL]; exact Nat.ne_of_lt (hfp b hb).2
   · have e:cenv.cells.lookup y=some c:=e;rcases mem e with ⟨h1,_⟩ | ⟨h1,_⟩
     · exact (hfp b hb).1.2.2.2.2.1 y c h1 z
     · have h2:s.heap.objs.size+1≤b:=by rw [← z]; exact h1
       exact absurd (Nat.lt_of_lt_of_le (hfp b hb).2 (Nat.le_of_succ_le h2)) (Nat.lt_irrefl _)
   · rcases (hfp b hb).1.2.2.2.1 with z | z
     · exact I.ok.noex b o e z
     · exact absurd (Nat.lt_of_lt_of_le (Heap.lt_size e) (Nat.le_trans I.ok.bsz z)) (Nat.lt_irrefl _)
   · rcases List.mem_cons.mp (I.stkSub b z) with z | z
     · exact (hfp b hb).1.2.1 z
     · exact (hfp b hb).1.2.2.1 z
 refine ⟨okB,rfl,I.bare,Un.kept kp,⟨fun _=>none,?_,fun i y av e1 e2 e3=>?_⟩,fun y c e=>?_,?_,fun y c e=>?_,fun p hp=>?_,I.hok.kept kp,by rw [wipe_length]; exact I.len⟩
 · show Heap.Ns _ cenv.locals _;rw [hL];exact Heap.Ns.keeps (Heap.Ns.new ..) fun b o e=>pushCells_keeps _ _ _ _ e
 · obtain ⟨e2,hne⟩:=wipe_some e2
   have hfr:scope.names.lookup y=some .free∧(cenv.kindOf y=some .cell∨cenv.kindOf y=some .free):=by
     have key:∀ k,cenv.scope.names.lookup y=some k→k = .local∨k = .cell∨k = .free→scope.names.lookup y=some .free∧(cenv.kindOf y=some .cell∨cenv.kindOf y=some .free):=fun k hk hk'=>by
       have hk0:=hk;rw [hsc] at hk;obtain ⟨k',e,r⟩:=lookup_relS hk
       have no:¬ (k' = .local∨k' = .cell):=fun hh=>by
         rcases ok.own _ (PySem.mem_of_lookup e) hh with e' | e'
         · obtain ⟨p,hp,hpy⟩:=List.mem_map.mp e';have e3:=ok.ix p hp;have:p.1=y:=hpy;rw [this] at e3;exact hne (List.mem_map.mpr ⟨p,hp,nodup_ix hN e3 e1⟩)
         · exact e' (List.mem_of_getElem? e1)
       rcases r with rfl | ⟨rfl,rfl⟩
       · rcases hk' with rfl | rfl | rfl
         · exact absurd (.inl rfl) no
         · exact absurd (.inr rfl) no
         · exact ⟨e,.inr hk0⟩
       · exact ⟨e,.inl hk0⟩
     have e3:Vis cenv.scope y:=e3;rcases e3 with e3 | e3 | e3
     · exact key _ e3 (.inl rfl)
     · exact key _ e3 (.inr (.inl rfl))
     · exact key _ e3 (.inr (.inr rfl))
   obtain ⟨m,hn,hl⟩:=I.loc;have hvis:Vis X.env.scope y:=(ok.free _ (PySem.mem_of_lookup hfr.1) rfl).elim (fun k=>.inr (.inl k)) (fun k=>.inr (.inr k));obtain ⟨w,r,q⟩:=hl i y av e1 e2 hvis;refine ⟨w,r,.inr ⟨hfr.2,?_⟩⟩;obtain ⟨c,h1,h2⟩:=look hfr.1;rcases q with ⟨k,_⟩ | ⟨_,c',e',z⟩
   · have k:X.env.scope.names.lookup y=some .local:=k;rcases ok.free _ (PySem.mem_of_lookup hfr.1) rfl with k' | k' <;> rw [show X.env.scope.names.lookup y=_ from k'] at k <;> cases k
   · rw [h2] at e'; cases e';exact ⟨c,h1,z.keeps kp⟩
 · have e:cenv.cells.lookup y=some c:=e;rcases mem e with ⟨h1,_⟩ | ⟨_,z⟩
   · obtain ⟨w,z⟩:=I.cell y c h1;exact ⟨w,z.keeps kp⟩
   · exact ⟨_,z⟩
 · show H cenv.locals=none;rw [hL]; exact I.hok.fresh (Nat.le_refl _)
 · have e:cenv.cells.lookup y=some c:=e;rcases mem e with ⟨h1,_⟩ | ⟨h1,_⟩
   · exact I.freeC y c h1
   · exact I.hok.fresh (Nat.le_of_succ_le h1)
 · exact absurd (show p∈([]:List (Addr × Obj))++[] from hp) (by simp)
theorem app_ok {E:Value→Shared→Prop} {D:Addr} {xs:List V} {y:V} {v:Value} {Q:Value→Shared→Prop} (I:Inv X pins σ H s) (hD:H D=some (.lst xs)) (hz:xs.length < sizeLine) (r:RelV y v)
   (h:∀ s',Inv X pins σ (upd H D (.lst (xs++[y]))) s'→Q .none s'):wpAny (model X.prog X.w) X.A (call (.builtin "list.append") [.ref D,v]) Q E s:=by
 obtain ⟨hz',its,n,ri,e⟩:=I.hok D _ hD;have hl:=ri.length;refine append_at (hsz:=by rw [List.size_toArray]; omega) e fun h' sb ho'=>?_;refine h { s with heap:=h' } (I.write (t':=s.toks) (by rw [hD]; trivial) (.inl rfl) (fun b u hb q=>(sb.2 b hb).trans q) ⟨_,ho'⟩ ⟨by rw [List.length_append]; exact hz,its++[v],n+1,ri.append (.cons r .nil),?_⟩);rw [ho'];simp
noncomputable def PTs (X:Cx) (ifs:List Expr) (t:TT):Prop :=
 ∀ (pins:List (Addr × Obj)) (s:Shared) (σ:St) (H:Hp) (Q:Bool→Hp→Prop),Inv X pins σ H s→t σ H Q →
   wpAny (model X.prog X.w) X.A (forIn ifs true fun c r=>if r=true then do let ok ← isTrue c X.env (eval c X.env); pure (ForInStep.yield ok) else pure (ForInStep.yield r)) (TP X pins σ Q) X.xe s
noncomputable def tYes:TT:=fun _ H Q=>Q true H
theorem pts_nil:PTs X [] tYes:=fun _ _ _ H _ I h=>wpAny_tests_nil ⟨H,I,h⟩
theorem pts_one {c:Expr} {t:TT} (h:PT X c t):PTs X [c] t:=fun pins s σ H Q I hw=>wpAny_tests_one (h pins s σ H Q I hw)
end
theorem thnF {α:Type} {t:Sem α} {Q Q':α→Shared→Prop} {M:Model} {A:Around} {E:Value→Shared→Prop} {s:Shared} (h:wpAny M A t Q (fun _ _=>False) s) (hQ:∀ a s,Q a s→Q' a s):wpAny M A t Q' E s:=wpAny_mono h hQ fun _ _ z=>False.elim z
theorem compLoop_any {prog:Program} {w:World} {A:Around} {R:Result→Shared→Prop} {s:Shared} {elt target iter:Expr} {ifs:List Expr} {scope:Scope} {pos:Pos} {it acc:Value} {env:Env} (I:Nat→Shared→Prop)
   (turn:∀ n s,I n s→wpAny (model prog w) A (pyNext it) (fun r s₁=>match r with
     | none=>R (.ok .next) s₁
     | some v=>wpAny (model prog w) A (letOwnedTupleGo target it v) (fun _ s₁'=>wpAny (model prog w) A (assign target env v) (fun _ s₂ =>
         wpAny (model prog w) A (forIn ifs true fun c r=>if r=true then do let ok ← isTrue c env (eval c env); pure (ForInStep.yield ok) else pure (ForInStep.yield r)) (fun ok s₃ =>
           if ok=true then wpAny (model prog w) A (eval elt env) (fun x s₄ =>
             wpAny (model prog w) A (call (.builtin "list.append") [acc,x]) (fun _ s₅=>∃ m,m < n∧I m s₅) (notedBy (model prog w) A env fun e s'=>R (.error e) s') s₄) (notedBy (model prog w) A env fun e s'=>R (.error e) s') s₃
           else ∃ m,m < n∧I m s₃) (notedBy (model prog w) A env fun e s'=>R (.error e) s') s₂) (notedBy (model prog w) A env fun e s'=>R (.error e) s') s₁') (notedBy (model prog w) A env fun e s'=>R (.error e) s') s₁) (notedBy (model prog w) A env fun e s'=>R (.error e) s') s)
   (n:Nat) (h:I n s) :
   codeAny (model prog w) A (.compLoop (.ListComp elt [⟨target,iter,ifs,0⟩] scope pos) 0 it acc env) R s:=by
 refine codeAny_loop rfl I (fun n s hI=>?_) n h;show wpAny _ A ((compTurn (.ListComp elt [⟨target,iter,ifs,0⟩] scope pos) 0 it acc env).onRaise (fun x=>do noteFrame x env; theTreesLotGoes x)) _ _ s;refine wpAny_noted ?_;rw [compTurn_list];refine wpAny_bind (wpAny_standAt (wpAny_bind (wpAny_mono (turn n s hI) (fun r s₁ h₁=>?_) fun _ _ h'=>h')))
 cases r with
 | none=>exact wpAny_pure h₁
 | some v =>
   refine wpAny_bind (wpAny_mono h₁ (fun _ s₁' h₁'=>?_) fun _ _ h'=>h');refine wpAny_bind (wpAny_mono h₁' (fun _ s₂ h₂=>wpAny_bind (wpAny_mono h₂ (fun ok s₃ h₃=>?_) fun _ _ h'=>h')) fun _ _ h'=>h')
   cases ok with
   | false=>exact wpAny_pure ⟨rfl,h₃⟩
   | true =>
     exact wpAny_bind (wpAny_bind (wpAny_mono h₃ (fun x s₄ h₄=>wpAny_bind (wpAny_mono h₄ (fun _ s₅ h₅=>wpAny_pure (wpAny_pure ⟨rfl,h₅⟩)) fun _ _ h'=>h')) fun _ _ h'=>h'))
section
variable {X:Cx}
noncomputable def tLc (wi:TI) (g:TG) (tt:TT) (te:TE) (vs:List Nat):TE:=fun σ H Q=>wi σ H fun J H1=>∀ D,H1 D=none→∃ W:Nat→Nat→Hp→Prop,(∃ m,W 0 m (upd H1 D (.lst [])))∧∀ i m H,W i m H →
 (J.stop i H∧Q (.ref D) H)∨(J.go i H∧∃ Nx:Hp→Prop,(∀ H',Nx H'→∃ m',m' < m∧W (i+1) m' H')∧∀ x H',J.yld i H x H'→g x (wipe σ vs) H' fun σ2 H2=>wipe σ2 vs=wipe σ vs∧tt σ2 H2 fun b H3 =>
   if b=true then te σ2 H3 fun y H4=>∃ acc,H4 D=some (.lst acc)∧acc.length < sizeLine∧Nx (upd H4 D (.lst (acc++[y]))) else Nx H3)
theorem lc_core {pins:List (Addr × Obj)} {s:Shared} {σ:St} {H:Hp} {Q:VK} {elt tg iter:Expr} {ifs:List Expr} {scope:Scope} {own:List (Str × Nat)} {pos pos':Pos} {wi:TI} {g:TG} {tt:TT} {te:TE} {use:Option (Value→Sem Unit)} {Qf:Value→Shared→Prop}
   (hc:X.calm=true) (hN:X.N.Nodup) (I:Inv X pins σ H s) (hi:PI X tg iter wi) (ok:BlkOk X.N X.env.scope scope own)
   (hg:∀ (s:Shared) (H:Hp) (C:Addr) (cl:List (Str × Addr)) (fp:List Addr),PG (X.blk s H scope (compEnvC scope cl C X.env) fp) tg g) (ht:∀ (s:Shared) (H:Hp) (C:Addr) (cl:List (Str × Addr)) (fp:List Addr),PTs (X.blk s H scope (compEnvC scope cl C X.env) fp) ifs tt)
   (he:∀ (s:Shared) (H:Hp) (C:Addr) (cl:List (Str × Addr)) (fp:List Addr),PE (X.blk s H scope (compEnvC scope cl C X.env) fp) elt te) (hs:∀ x,foldedSetIterable iter X.env x=pure x)
   (h:tLc wi g tt te (own.map (·.2)) σ H Q)
   (hRR:∀ D C s' m H',Inv X pins σ H' s'→Q (.ref D) H'→s'.heap.Ns C m→FpOk X pins H' C→compPost (model X.prog X.w) X.A X.xe use Qf (.ref D) C (.ok .next) s') :
   wpAny (model X.prog X.w) X.A (comprehension (.ListComp elt [⟨tg,iter,ifs,0⟩] scope pos) scope X.env pos' (newList []) false (eval iter X.env) use) Qf X.xe s:=by
 have hfree:∀ y∈scope.names,y.2 = .free→∃ c,X.env.cells.lookup y.1=some c:=fun y hy e=>by
   rcases ok.free y hy e with k | k
   · exact I.ok.has _ (.inl k)
   · exact I.ok.has _ (.inr k)
 refine wpAny_comprehension_free (use:=use) rfl hs (closure_ok hfree) ok.kind (fun y hy e=>by rw [ok.uniq y hy,e])
   (thn (hi pins s σ H _ I h) fun xv s1 hx=>thn hx fun itv s2 h2=>?_)
 obtain ⟨it,fp,tn,J,H2,e,I2,T,st2,f2,q⟩:=h2;subst e;refine wpAny_newObj_type (newEnv_comp ?_) (by show 0≤sizeLine; decide);generalize hD:s2.heap.objs.size=D;have hDn:H2 D=none:=I2.hok.fresh (Nat.le_of_eq hD);obtain ⟨W,⟨m0,w0⟩,turn⟩:=q D hDn;generalize hs3:({ s2 with heap:=s2.heap.push { cls:=.type "list",data:=.seq ([]:List Value).toArray } }:Shared)=s3
 have I3:Inv X pins σ (upd H2 D (.lst [])) s3:=by
   rw [← hs3];refine I2.laid (t':=s2.toks) (fun b o e=>Heap.get?_push_of_some _ e) (Nat.le_of_eq hD) ⟨Nat.zero_le _,[],0,.nil,?_⟩;rw [← hD];exact Heap.get?_push_size _ rfl
 have h3:s3.heap=s2.heap.push { cls:=.type "list",data:=.seq ([]:List Value).toArray }:=by rw [← hs3]
 have sz:∀ b∈fp,b < s2.heap.objs.size:=fun b hb=>by
   obtain ⟨o,e,_⟩:=T.obj _ _ st2 b hb;exact Heap.lt_size e
 have f3:∀ b∈fp,FpOk X pins (upd H2 D (.lst [])) b∧b < s3.heap.objs.size:=fun b hb=>by
   have hlt:=sz b hb;refine ⟨⟨?_,(f2 b hb).2⟩,by rw [h3,Heap.size_push]; exact Nat.lt_succ_of_lt hlt⟩;rw [upd_ne (by rw [← hD]; exact Nat.ne_of_lt hlt)];exact (f2 b hb).1
 have st3:tn 0 s3.heap:=T.keep _ _ _ st2 fun b _ o e=>by rw [h3]; exact Heap.get?_push_of_some _ e
 have I4:=block_start I3 ok hN f3;have pg:=hg s3 (upd H2 D (.lst [])) s3.heap.objs.size (cellsFrom (s3.heap.objs.size+1) scope.names (cloFrom X.env.cells scope.names [])) fp;have pt:=ht s3 (upd H2 D (.lst [])) s3.heap.objs.size (cellsFrom (s3.heap.objs.size+1) scope.names (cloFrom X.env.cells scope.names [])) fp;have pe:=he s3 (upd H2 D (.lst [])) s3.heap.objs.size (cellsFrom (s3.heap.objs.size+1) scope.names (cloFrom X.env.cells scope.names [])) fp;show codeAny _ _ (.compStart (.ListComp elt [⟨tg,iter,ifs,0⟩] scope pos) 0 (.ref it) (.ref D) (compEnvC scope (cellsFrom (s3.heap.objs.size+1) scope.names (cloFrom X.env.cells scope.names [])) s3.heap.objs.size X.env)) (compPost (model X.prog X.w) X.A X.xe use Qf (.ref D) s3.heap.objs.size) { s3 with heap:=pushCells (s3.heap.push { cls:=.type "dict",data:=.dict #[] }) scope.names };have nfp:∀ b∈fp,(upd H2 D (.lst [])) b=none:=fun b hb=>(f3 b hb).1.1;generalize hce:compEnvC scope (cellsFrom (s3.heap.objs.size+1) scope.names (cloFrom X.env.cells scope.names [])) s3.heap.objs.size X.env=ce at I4 pg pt pe ⊢;have cL:ce.locals=s3.heap.objs.size:=by subst hce; rfl
 generalize hH3:upd H2 D (.lst [])=H3 at I3 I4 pg pt pe w0 nfp f3;generalize hs4:({ s3 with heap:=pushCells (s3.heap.push { cls:=.type "dict",data:=.dict #[] }) scope.names }:Shared)=s4 at I4 ⊢;have st4:tn 0 s4.heap:=T.keep _ _ _ st3 fun b _ o e=>by rw [← hs4]; exact pushCells_keeps _ _ _ _ (Heap.get?_push_of_some _ e)
 have stat:∀ {σ':St} {H':Hp} {s':Shared},Inv (X.blk s3 H3 scope ce fp) [] σ' H' s'→(∀ b∈fp,H' b=none)→∀ b∈fp,FpOk (X.blk s3 H3 scope ce fp) [] H' b:=fun {σ' H' s'} I' hn b hb =>
   ⟨hn b hb,(I'.ok.exf b hb).1,I'.ok.exfs b hb,.inl hb,fun x c e=>(I'.ok.exf b hb).2 x c e,fun p hp=>absurd (show p∈([]:List (Addr × Obj))++[] from hp) (by simp)⟩
 have loop:codeAny (model X.prog X.w) X.A (.compLoop (.ListComp elt [⟨tg,iter,ifs,0⟩] scope pos) 0 (.ref it) (.ref D) ce) (compPost (model X.prog X.w) X.A X.xe use Qf (.ref D) s3.heap.objs.size) s4:=by
   refine compLoop_any (fun n s'=>∃ i H',Inv (X.blk s3 H3 scope ce fp) [] (wipe σ (own.map (·.2))) H' s'∧tn i s'.heap∧(∀ b∈fp,H' b=none)∧W i n H') ?_ m0 ⟨0,H3,I4,st4,nfp,w0⟩;rintro n s5 ⟨i,H5,I5,st5,n5,w5⟩;rcases turn i n H5 w5 with ⟨stop,qq⟩ | ⟨go,Nx,hNx,step⟩
   · have td:=T.done (X.blk s3 H3 scope ce fp) rfl rfl rfl hc i [] s5 _ H5 (fun _ _=>False) I5 (stat I5 n5) st5 stop;refine thnF td fun r s6 ⟨hr,I6⟩=>?_;subst hr;have I7:Inv X pins σ H5 s6:=I3.call' (ch:=fp) I6.os I6.base I6.hok I6.bare fun b hb=>⟨(f3 b hb).1.2.2.2.1,(f3 b hb).1.2.1,(f3 b hb).1.2.2.2.2.1,(f3 b hb).1.2.2.2.2.2⟩
     have nC:H5 s3.heap.objs.size=none:=by
       have z:H5 ce.locals=none:=I6.free;rw [cL] at z;exact z
     obtain ⟨m,hn,_⟩:=I6.loc;have hn:s6.heap.Ns ce.locals m:=hn;rw [cL] at hn;exact hRR D s3.heap.objs.size s6 m H5 I7 qq hn (I3.fpOk (Nat.le_refl _) nC)
   · have ti:=T.item (X.blk s3 H3 scope ce fp) rfl rfl rfl hc i [] s5 _ H5 (fun _ _=>False) I5 (stat I5 n5) st5 go;refine thnF ti fun r s6 ⟨u,hr,h6⟩=>?_;subst hr;refine thnF h6 fun _ s7 ⟨x,H7,I7,r7,y7,st7,n7⟩=>?_;have I7':=I7.pinned (stat I7 n7) (T.obj _ _ st7);refine thnF (pg _ s7 _ H7 x u _ I7' r7 (step x H7 y7)) fun _ s8 ⟨σ8,H8,I8,hw8,q8⟩=>?_;refine thnF (pt _ s8 σ8 H8 _ I8 q8) fun b s9 ⟨H9,I9,q9⟩=>?_
     have fin:∀ {s':Shared} {H':Hp},Inv (X.blk s3 H3 scope ce fp) ([]++pinsAt fp s7.heap) σ8 H' s'→Nx H'→∃ m,m < n∧∃ i H',Inv (X.blk s3 H3 scope ce fp) [] (wipe σ (own.map (·.2))) H' s'∧tn i s'.heap∧(∀ b∈fp,H' b=none)∧W i m H':=fun {s' H'} I' nx=>by
       obtain ⟨m',hm,w'⟩:=hNx H' nx
       have pin':∀ b∈fp,∀ o,s7.heap.get? b=some o→s'.heap.get? b=some o∧H' b=none:=fun b hb o e =>
         let z:=I'.pin (b,o) (List.mem_append_right _ (List.mem_append_right _ (mem_pinsAt hb e)))
         ⟨z.1,z.2.1⟩
       have hl:(wipe σ (own.map (·.2))).length=σ8.length:=by rw [← hw8,wipe_length]
       refine ⟨m',hm,i+1,H',(I'.unpinned (pins:=[])).weak hl (fun j v e=>?_),T.keep _ _ _ st7 fun b hb o e=>(pin' b hb o e).1,fun b hb=>?_,w'⟩
       · rw [← hw8] at e;exact (wipe_some e).1
       · obtain ⟨o,e,_⟩:=T.obj _ _ st7 b hb;exact (pin' b hb o e).2
     cases b with
     | false =>
       simp only [Bool.false_eq_true,if_false] at q9 ⊢
       exact fin I9 q9
     | true =>
       simp only [if_true] at q9 ⊢;refine thnF (pe _ s9 σ8 H9 _ I9 q9) fun z s10 ⟨yv,H10,I10,r10,acc,hD10,hz10,nx⟩=>?_;exact app_ok (X:=X.blk s3 H3 scope ce fp) I10 hD10 hz10 r10 fun s11 I11=>fin I11 nx
 exact codeAny_compStart_list loop (T.self X.A 0 _ _ _ st4 loop)
theorem pe_lc {elt tg iter:Expr} {ifs:List Expr} {scope:Scope} {own:List (Str × Nat)} {pos:Pos} {wi:TI} {g:TG} {tt:TT} {te:TE} (hc:X.calm=true) (hN:X.N.Nodup) (hi:PI X tg iter wi) (ok:BlkOk X.N X.env.scope scope own)
   (hg:∀ (s:Shared) (H:Hp) (C:Addr) (cl:List (Str × Addr)) (fp:List Addr),PG (X.blk s H scope (compEnvC scope cl C X.env) fp) tg g) (ht:∀ (s:Shared) (H:Hp) (C:Addr) (cl:List (Str × Addr)) (fp:List Addr),PTs (X.blk s H scope (compEnvC scope cl C X.env) fp) ifs tt)
   (he:∀ (s:Shared) (H:Hp) (C:Addr) (cl:List (Str × Addr)) (fp:List Addr),PE (X.blk s H scope (compEnvC scope cl C X.env) fp) elt te) (hs:∀ x,foldedSetIterable iter X.env x=pure x:=by intro _; rfl) :
   PE X (.ListComp elt [⟨tg,iter,ifs,0⟩] scope pos) (tLc wi g tt te (own.map (·.2))):=by
 intro pins s σ H Q I h;rw [eval_ListComp];refine lc_core hc hN I hi ok hg ht he hs h fun D C s' m H' I' q hn f=>⟨m,hn,fun h'' sb=>?_⟩;obtain ⟨f0,f1,f2,f3,f4,f5⟩:=f;exact ⟨.ref D,H',I'.turned (t':=s'.toks) (fun b o hb e=>(sb.2 b hb).trans e) f0 f1 f3 f4 f5,rfl,q⟩
theorem ps_setLc {i:Nat} {y:Str} {py:Pos} {elt tg iter:Expr} {ifs:List Expr} {scope:Scope} {own:List (Str × Nat)} {pos spos:Pos} {wi:TI} {g:TG} {tt:TT} {te:TE} (hc:X.calm=true) (hN:X.N.Nodup) (hy:X.N[i]? = some y) (hyl:X.env.scope.names.lookup y=some .local)
   (hsw:swapsWith (.ListComp elt [⟨tg,iter,ifs,0⟩] scope pos) (some (.Name y py)) spos.line X.env=pure true) (hi:PI X tg iter wi) (ok:BlkOk X.N X.env.scope scope own)
   (hg:∀ (s:Shared) (H:Hp) (C:Addr) (cl:List (Str × Addr)) (fp:List Addr),PG (X.blk s H scope (compEnvC scope cl C X.env) fp) tg g) (ht:∀ (s:Shared) (H:Hp) (C:Addr) (cl:List (Str × Addr)) (fp:List Addr),PTs (X.blk s H scope (compEnvC scope cl C X.env) fp) ifs tt)
   (he:∀ (s:Shared) (H:Hp) (C:Addr) (cl:List (Str × Addr)) (fp:List Addr),PE (X.blk s H scope (compEnvC scope cl C X.env) fp) elt te) (hs:∀ x,foldedSetIterable iter X.env x=pure x:=by intro _; rfl) :
   PS X (.Assign [.Name y py] (.ListComp elt [⟨tg,iter,ifs,0⟩] scope pos) spos) (tAsg (tLc wi g tt te (own.map (·.2))) (gName i)):=by
 intro pins s σ H D I h;rw [exec_Assign_Name_used _ _ _ _ hsw];refine wpAny_bind (wpAny_standAt (wpAny_bind ?_));show wpAny _ X.A (do let _ ← comprehension (.ListComp elt [⟨tg,iter,ifs,0⟩] scope pos) scope X.env (firstIterPos [⟨tg,iter,ifs,0⟩] pos) (newList []) false (eval iter X.env) (some (assign (.Name y py) X.env))) _ _ s;have h:tLc wi g tt te (own.map (·.2)) σ H (fun x H1=>gName i x σ H1 D.nx):=h;refine wpAny_bind (thn (lc_core (Qf:=fun _ s'=>SP X pins D .next s') hc hN I hi ok hg ht he hs h fun L C s' m H' I' q hn f=>?_) fun _ s' hq=>wpAny_pure (wpAny_pure hq));show wpAny _ _ (assign (.Name y py) X.env (.ref L)) _ _ _;refine wpAny_assign_Name (store_ok2 (v:=V.ref L) I' hN hy (.inl hyl) rfl (fun s2 I2 ⟨a,sb,ha⟩=>?_) (.inr hyl));obtain ⟨f0,f1,f2,f3,f4,f5⟩:=f
 have haC:C≠a:=by
   rcases ha with z | z
   · rw [z]; exact f1
   · exact fun e=>f4 y a z e.symm
 refine ⟨m,hn.sameBut sb haC,fun h3 sb3=>?_⟩;exact ⟨_,H',I2.turned (t':=s2.toks) (fun b o hb e=>(sb3.2 b hb).trans e) f0 f1 f3 f4 f5,q⟩
theorem sw_true {elt:Expr} {gs:List Comprehension} {scope:Scope} {pos py:Pos} {y:Str} {l:Nat} {env:Env} (hk:env.scope.kind = .function) (hy:env.scope.names.lookup y=some .local) (hl:(py.line == pos.line)=true)
   (ha:(scope.names.any fun (n,k)=>n == y && (k == .local || k == .cell))=false):swapsWith (.ListComp elt gs scope pos) (some (.Name y py)) l env=pure true:=by
 have ky:env.kindOf y=some .local:=hy;have hb:env.blockKind = .function:=by unfold Env.blockKind; rw [hk]; rfl
 unfold swapsWith;simp only [hb,ky,ha,Expr.pos,hl];rfl
end
theorem lc_range {lo:Int} {n:Nat} {g:TG} {tt:TT} {te:TE} {vs:List Nat} {σ:St} {H1:Hp} {D:Addr} {Qd:Hp→Prop} (Pv:Nat→Hp→Prop) (h0:Pv 0 (upd H1 D (.lst [])))
   (hs:∀ i H,i < n→Pv i H→g (.int (lo+i)) (wipe σ vs) H fun σ2 H2=>wipe σ2 vs=wipe σ vs∧tt σ2 H2 fun b H3 =>
     if b=true then te σ2 H3 fun y H4=>∃ acc,H4 D=some (.lst acc)∧acc.length < sizeLine∧Pv (i+1) (upd H4 D (.lst (acc++[y]))) else Pv (i+1) H3) (hd:∀ H,Pv n H→Qd H) :
   ∃ W:Nat→Nat→Hp→Prop,(∃ m,W 0 m (upd H1 D (.lst [])))∧∀ i m H,W i m H →
     ((Itr lo n).stop i H∧Qd H)∨((Itr lo n).go i H∧∃ Nx:Hp→Prop,(∀ H',Nx H'→∃ m',m' < m∧W (i+1) m' H')∧∀ x H',(Itr lo n).yld i H x H'→g x (wipe σ vs) H' fun σ2 H2=>wipe σ2 vs=wipe σ vs∧tt σ2 H2 fun b H3 =>
       if b=true then te σ2 H3 fun y H4=>∃ acc,H4 D=some (.lst acc)∧acc.length < sizeLine∧Nx (upd H4 D (.lst (acc++[y]))) else Nx H3):=by
 refine ⟨fun i m H=>m=n - i∧i≤n∧Pv i H,⟨n,by simp,Nat.zero_le _,h0⟩,?_⟩;rintro i m H ⟨rfl,hi,p⟩;by_cases hlt:i < n
 · refine .inr ⟨hlt,Pv (i+1),fun H' p'=>⟨n - (i+1),by omega,rfl,hlt,p'⟩,fun x H' y=>?_⟩;obtain ⟨e,y⟩:=y;subst e y;exact hs i _ hlt p
 · have e:i=n:=by omega
   subst e;exact .inl ⟨Nat.le_refl _,hd H p⟩
theorem lc_list {K:PySem.W.Frag} {a:Addr} {xs:List V} {g:TG} {tt:TT} {te:TE} {vs:List Nat} {σ:St} {H1:Hp} {D:Addr} {Qd:Hp→Prop} (Pv:Nat→Hp→Prop) (h0:Pv 0 (upd H1 D (.lst []))) (hl:∀ i H,i≤xs.length→Pv i H→SqL K H a xs)
   (hs:∀ i x H,xs[i]? = some x→Pv i H→g x (wipe σ vs) H fun σ2 H2=>wipe σ2 vs=wipe σ vs∧tt σ2 H2 fun b H3 =>
     if b=true then te σ2 H3 fun y H4=>∃ acc,H4 D=some (.lst acc)∧acc.length < sizeLine∧Pv (i+1) (upd H4 D (.lst (acc++[y]))) else Pv (i+1) H3) (hd:∀ H,Pv xs.length H→Qd H) :
   ∃ W:Nat→Nat→Hp→Prop,(∃ m,W 0 m (upd H1 D (.lst [])))∧∀ i m H,W i m H →
     ((Itl K a).stop i H∧Qd H)∨((Itl K a).go i H∧∃ Nx:Hp→Prop,(∀ H',Nx H'→∃ m',m' < m∧W (i+1) m' H')∧∀ x H',(Itl K a).yld i H x H'→g x (wipe σ vs) H' fun σ2 H2=>wipe σ2 vs=wipe σ vs∧tt σ2 H2 fun b H3 =>
       if b=true then te σ2 H3 fun y H4=>∃ acc,H4 D=some (.lst acc)∧acc.length < sizeLine∧Nx (upd H4 D (.lst (acc++[y]))) else Nx H3):=by
 refine ⟨fun i m H=>m=xs.length - i∧i≤xs.length∧Pv i H,⟨xs.length,by simp,Nat.zero_le _,h0⟩,?_⟩;rintro i m H ⟨rfl,hi,p⟩;have q:=hl i H hi p;by_cases hlt:i < xs.length
 · refine .inr ⟨⟨xs,xs[i],q,by simp [hlt]⟩,Pv (i+1),fun H' p'=>⟨xs.length - (i+1),by omega,rfl,hlt,p'⟩,fun x H' y=>?_⟩;obtain ⟨e,y⟩:=y;subst e;exact hs i x _ (y xs q) p
 · have e:i=xs.length:=by omega
   subst e;exact .inl ⟨⟨xs,q,Nat.le_refl _⟩,hd H p⟩
noncomputable def blkC (N:List Str) (sc scope:Scope) (own:List (Str × Nat)):Bool :=
 (match scope.kind with | .function=>true | _=>false) && (scope.names.all fun y=>decide (scope.names.lookup y.1=some y.2)) && (own.all fun p=>decide (N[p.2]? = some p.1)) &&
   (scope.names.all fun y=>match y.2 with
     | .free=>(match sc.names.lookup y.1 with | some .cell=>true | some .free=>true | _=>false)
     | .local=>decide (y.1∈own.map (·.1)) || decide (y.1 ∉ N)
     | .cell=>decide (y.1∈own.map (·.1)) || decide (y.1 ∉ N)
     | _=>true)
theorem blkOk_by {N:List Str} {sc scope:Scope} {own:List (Str × Nat)} (h:blkC N sc scope own=true):BlkOk N sc scope own:=by
 unfold blkC at h;simp only [Bool.and_eq_true,List.all_eq_true,decide_eq_true_eq] at h;obtain ⟨⟨⟨h1,h2⟩,h3⟩,h4⟩:=h;refine ⟨?_,h2,h3,fun y hy e=>?_,fun y hy e=>?_⟩
 · split at h1
   · assumption
   · cases h1
 · have q:=h4 y hy;simp only [e] at q;split at q <;> first | exact .inl (by assumption) | exact .inr (by assumption) | cases q
 · have q:=h4 y hy;rcases e with e | e <;> (simp only [e,Bool.or_eq_true,decide_eq_true_eq] at q; exact q)
end L2
namespace L2
open PySem PySem.Spec PyProof.Rows
section
variable {prog:Program} {w:World} {A:Around} {R:Result→Shared→Prop} {s:Shared} {elt t0 i0 t1 i1:Expr} {ifs0 ifs1:List Expr} {scope:Scope} {pos:Pos} {it acc:Value} {env:Env}
end
section
variable {X:Cx}
end
end L2
namespace L2
open PySem PySem.Spec PyProof.Rows
section
variable {κ:Type} [DecidableEq κ]
noncomputable def valV (kvs:List (κ × V)) (k:κ):Option V:=(kvs.find? fun kv=>decide (kv.1=k)).map (·.2)
noncomputable def putK (kvs:List (κ × V)) (k:κ) (v:V):List (κ × V) :=
 if (kvs.any fun kv=>decide (kv.1=k))=true then kvs.map (fun kv=>if kv.1=k then (kv.1,v) else kv) else kvs++[(k,v)]
noncomputable def dropK (kvs:List (κ × V)) (k:κ):List (κ × V):=kvs.filter fun kv=>decide (kv.1≠k)
theorem valV_pos {p:κ × V} {r:List (κ × V)} {k:κ} (e:p.1=k):valV (p :: r) k=some p.2:=by simp [valV,List.find?_cons,e]
theorem valV_neg {p:κ × V} {r:List (κ × V)} {k:κ} (e:¬ p.1=k):valV (p :: r) k=valV r k:=by simp [valV,List.find?_cons,e]
theorem valV_any (k:κ):∀ kvs:List (κ × V),(kvs.any fun kv=>decide (kv.1=k))=(valV kvs k).isSome
 | []=>rfl
 | p :: r=>by
   rw [List.any_cons];by_cases e:p.1=k
   · simp only [valV_pos e,decide_eq_true e,Bool.true_or,Option.isSome_some]
   · rw [valV_neg e,decide_eq_false e,Bool.false_or]; exact valV_any k r
theorem length_putK (kvs:List (κ × V)) (k:κ) (v:V):(putK kvs k v).length≤kvs.length+1:=by
 unfold putK;split
 · rw [List.length_map]; omega
 · rw [List.length_append,List.length_cons,List.length_nil]; omega
theorem putK_new {kvs:List (κ × V)} {k:κ} (v:V) (h:valV kvs k=none):putK kvs k v=kvs++[(k,v)]:=by
 unfold putK;rw [valV_any,h];exact if_neg (by decide)
theorem RelO.isSome_eq {o:Option V} {u:Option Value} (r:RelO o u):o.isSome=u.isSome:=by
 cases o with
 | none=>cases u with
   | none=>rfl
   | some _=>exact (show False from r).elim
 | some _=>cases u with
   | none=>exact (show False from r).elim
   | some _=>rfl
theorem RelO.getD {o:Option V} {u:Option Value} {d:V} {d':Value} (r:RelO o u) (rd:RelV d d'):RelV (o.getD d) (u.getD d'):=by
 cases o with
 | none=>cases u with
   | none=>exact rd
   | some _=>exact (show False from r).elim
 | some _=>cases u with
   | none=>exact (show False from r).elim
   | some _=>exact r
theorem KV.val {kvs:List (κ × V)} {vs:List (κ × Value)} (r:KV kvs vs) (k:κ):RelO (valV kvs k) (valueAt vs k):=by
 unfold KV at r
 induction r with
 | nil=>exact True.intro
 | @cons p q ps qs h t ih =>
   obtain ⟨h1,h2⟩:=h;by_cases e:p.1=k
   · have e':q.1=k:=h1.symm.trans e;have b:valueAt (q :: qs) k=some q.2:=by simp [valueAt,List.find?_cons,e']
     rw [valV_pos e,b]; exact h2
   · have e':¬ q.1=k:=fun z=>e (h1.trans z);have b:valueAt (q :: qs) k=valueAt qs k:=by simp [valueAt,List.find?_cons,e']
     rw [valV_neg e,b]; exact ih
theorem KV.any {kvs:List (κ × V)} {vs:List (κ × Value)} (r:KV kvs vs) (k:κ):(kvs.any fun kv=>decide (kv.1=k))=vs.any fun kv=>decide (kv.1=k):=by
 unfold KV at r
 induction r with
 | nil=>rfl
 | cons h t ih=>rw [List.any_cons,List.any_cons,ih,h.1]
theorem KV.repl {kvs:List (κ × V)} {vs:List (κ × Value)} (r:KV kvs vs) (k:κ) {y:V} {u:Value} (ry:RelV y u) :
   KV (kvs.map fun kv=>if kv.1=k then (kv.1,y) else kv) (vs.map fun kv=>if kv.1=k then (kv.1,u) else kv):=by
 unfold KV at r ⊢
 induction r with
 | nil=>exact .nil
 | @cons p q ps qs h t ih =>
   rw [List.map_cons,List.map_cons];refine .cons ?_ ih;obtain ⟨h1,h2⟩:=h;by_cases e:p.1=k
   · rw [if_pos e,if_pos (h1.symm.trans e)]; exact ⟨h1,ry⟩
   · rw [if_neg e,if_neg (fun z=>e (h1.trans z))]; exact ⟨h1,h2⟩
theorem KV.put {kvs:List (κ × V)} {vs:List (κ × Value)} (r:KV kvs vs) (k:κ) {y:V} {u:Value} (ry:RelV y u):KV (putK kvs k y) (stored vs k u):=by
 unfold putK stored;rw [r.any k];by_cases e:(vs.any fun kv=>decide (kv.1=k))=true
 · rw [if_pos e,if_pos e]; exact r.repl k ry
 · rw [if_neg e,if_neg e]; exact Paired.snoc r ⟨rfl,ry⟩
theorem KV.drop {kvs:List (κ × V)} {vs:List (κ × Value)} (r:KV kvs vs) (k:κ):KV (dropK kvs k) (without vs k):=by
 unfold KV at r ⊢;unfold dropK without
 induction r with
 | nil=>exact .nil
 | @cons p q ps qs h t ih =>
   obtain ⟨h1,h2⟩:=h;rw [List.filter_cons,List.filter_cons];by_cases e:p.1=k
   · have a:¬ decide (p.1≠k)=true:=by simp [e]
     have b:¬ decide (q.1≠k)=true:=by simp [h1.symm.trans e]
     rw [if_neg a,if_neg b]; exact ih
   · have e':¬ q.1=k:=fun z=>e (h1.trans z);have a:decide (p.1≠k)=true:=by simp [e]
     have b:decide (q.1≠k)=true:=by simp [e']
     rw [if_pos a,if_pos b]; exact .cons ⟨h1,h2⟩ ih
theorem KV.length {kvs:List (κ × V)} {vs:List (κ × Value)} (r:KV kvs vs):kvs.length=vs.length:=Paired.length r
end
theorem kV_is {P:Program} {w:World} {k:Key} {u:Value} (r:RelV (kV k) u):(mixKind P w).is k u=true:=by
 cases k with
 | inl i=>obtain ⟨t,e⟩:=(show ∃ t,u=Value.int i t from r); subst e; exact mixKind_int P w i t
 | inr x=>obtain ⟨t,e⟩:=(show ∃ t,u=Value.str x t from r); subst e; exact mixKind_str P w x t
theorem items_are {P:Program} {w:World}:∀ {ks:List Key} {us:List Value},Vals (ks.map kV) us→ItemsAre (mixKind P w) ks us
 | [],_,r=>by rw [List.map_nil] at r; cases r; exact .nil
 | k :: ks,_,r=>by
   rw [List.map_cons] at r
   cases r with
   | cons h t=>exact .cons (kV_is h) (items_are t)
noncomputable abbrev KT (H:Hp):List (List Key × V)→List (List Key × Addr × Value)→Prop:=Paired fun p q=>p.1=q.1∧H q.2.1=some (.tup (p.1.map kV))∧RelV p.2 q.2.2
theorem KT.val {H:Hp} {kvs:List (List Key × V)} {xs:List (List Key × Addr × Value)} (r:KT H kvs xs) (k:List Key):RelO (valV kvs k) ((atKey xs k).map (·.2)):=by
 induction r with
 | nil=>exact True.intro
 | @cons p q ps qs h t ih =>
   obtain ⟨h1,_,h2⟩:=h;by_cases e:p.1=k
   · have e':q.1=k:=h1.symm.trans e;have b:atKey (q :: qs) k=some q.2:=by simp [atKey,List.find?_cons,e']
     rw [valV_pos e,b]; exact h2
   · have e':¬ q.1=k:=fun z=>e (h1.trans z);have b:atKey (q :: qs) k=atKey qs k:=by simp [atKey,List.find?_cons,e']
     rw [valV_neg e,b]; exact ih
theorem KT.repl {H:Hp} {kvs:List (List Key × V)} {xs:List (List Key × Addr × Value)} (r:KT H kvs xs) (k:List Key) {y:V} {u:Value} (ry:RelV y u) :
   KT H (kvs.map fun kv=>if kv.1=k then (kv.1,y) else kv) (xs.map (putAt k u)):=by
 induction r with
 | nil=>exact .nil
 | @cons p q ps qs h t ih =>
   rw [List.map_cons,List.map_cons];refine .cons ?_ ih;obtain ⟨h1,h2,h3⟩:=h;unfold putAt;by_cases e:p.1=k
   · rw [if_pos e,if_pos (h1.symm.trans e)]; exact ⟨h1,h2,ry⟩
   · rw [if_neg e,if_neg (fun z=>e (h1.trans z))]; exact ⟨h1,h2,h3⟩
theorem KT.put {H:Hp} {kvs:List (List Key × V)} {xs:List (List Key × Addr × Value)} (r:KT H kvs xs) (k:List Key) {b:Addr} {y:V} {u:Value} (hb:H b=some (.tup (k.map kV))) (ry:RelV y u) :
   KT H (putK kvs k y) (storedH xs k b u):=by
 have e:(kvs.any fun kv=>decide (kv.1=k))=(atKey xs k).isSome:=by
   rw [valV_any,(r.val k).isSome_eq,Option.isSome_map]
 unfold putK storedH;rw [e];by_cases q:(atKey xs k).isSome=true
 · rw [if_pos q,if_pos q]; exact r.repl k ry
 · rw [if_neg q,if_neg q]; exact Paired.snoc r ⟨rfl,hb,ry⟩
theorem KT.keeps {H H':Hp} {kvs:List (List Key × V)} {xs:List (List Key × Addr × Value)} (r:KT H kvs xs) (ht:∀ b ys,H b=some (.tup ys)→H' b=some (.tup ys)):KT H' kvs xs :=
 Paired.mapP r fun _ _ z=>⟨z.1,ht _ _ z.2.1,z.2.2⟩
section
variable {P:Program} {w:World} {H:Hp} {h:Heap} {a:Addr}
theorem rd_of {u:HO} (ok:HOk P w H h) (e:Rd H a u):ObjOk P w H h a u:=e.ok ok
theorem dk_rd {kvs:List (Key × V)} (ok:HOk P w H h) (e:Rd H a (.dK kvs)):kvs.length≤sizeLine∧(a == sysModules)=false∧∃ vs,KV kvs vs∧h.DictOf (mixKind P w) a vs :=
 show ObjOk P w H h a (.dK kvs) from rd_of ok e
theorem dk_of {kvs:List (Key × V)} (ok:HOk P w H h) (e:H a=some (.dK kvs)):kvs.length≤sizeLine∧(a == sysModules)=false∧∃ vs,KV kvs vs∧h.DictOf (mixKind P w) a vs:=dk_rd ok (.inl e)
theorem key_of {ks:List Key} (ok:HOk P w H h) (e:H a=some (.tup (ks.map kV))):(tupleKind (mixKind P w)).is h ks a:=by
 obtain ⟨_,its,r,o,h1,h2,n,h3⟩:=(show ObjOk P w H h a (.tup (ks.map kV)) from ok a _ e);exact ⟨o,its.toArray,n,h1,h2,h3,by simpa using items_are r⟩
theorem dt_rd {kvs:List (List Key × V)} (ok:HOk P w H h) (e:Rd H a (.dT kvs)):kvs.length≤sizeLine∧(a == sysModules)=false ∧
   ∃ xs,KT H kvs xs∧h.DictOfH (tupleKind (mixKind P w)) a xs:=by
 obtain ⟨z,y,xs,r,o,es,ep,h1,h2,h3,h4,h5⟩:=(show ObjOk P w H h a (.dT kvs) from rd_of ok e);refine ⟨z,y,xs,r,o,es,ep,h1,h2,h3,h4,fun x hx=>?_,h5⟩
 have all:∀ {l:List (List Key × V)} {m:List (List Key × Addr × Value)},KT H l m→∀ x∈m,(tupleKind (mixKind P w)).is h x.1 x.2.1:=by
   intro l m q
   induction q with
   | nil=>intro x hx; exact nomatch hx
   | @cons p q ps qs hq t ih =>
     intro x hx;rcases List.mem_cons.mp hx with e | hx
     · subst e;exact key_of ok (by rw [← hq.1]; exact hq.2.1)
     · exact ih x hx
 exact all r x hx
theorem dt_of {kvs:List (List Key × V)} (ok:HOk P w H h) (e:H a=some (.dT kvs)):kvs.length≤sizeLine∧(a == sysModules)=false ∧
   ∃ xs,KT H kvs xs∧h.DictOfH (tupleKind (mixKind P w)) a xs:=dt_rd ok (.inl e)
end
noncomputable def DGet (H:Hp) (a:Addr) (y:V) (r:Option V):Prop :=
 (∃ kvs k,Rd H a (.dK kvs)∧y=kV k∧r=valV kvs k)∨∃ kvs k b,Rd H a (.dT kvs)∧y = .ref b∧H b=some (.tup (k.map kV))∧r=valV kvs k
noncomputable def DPut (H:Hp) (a:Addr) (y v:V) (H':Hp):Prop :=
 (∃ kvs k,H a=some (.dK kvs)∧y=kV k∧kvs.length < sizeLine∧H'=upd H a (.dK (putK kvs k v))) ∨
 ∃ kvs k b,H a=some (.dT kvs)∧y = .ref b∧H b=some (.tup (k.map kV))∧kvs.length < sizeLine∧H'=upd H a (.dT (putK kvs k v))
theorem DGet.k {H:Hp} {a:Addr} {kvs:List (Key × V)} {k:Key} (e:H a=some (.dK kvs)):DGet H a (kV k) (valV kvs k):=.inl ⟨kvs,k,.inl e,rfl,rfl⟩
theorem DGet.t {H:Hp} {a b:Addr} {kvs:List (List Key × V)} {k:List Key} (e:H a=some (.dT kvs)) (eb:H b=some (.tup (k.map kV))):DGet H a (.ref b) (valV kvs k):=.inr ⟨kvs,k,b,.inl e,rfl,eb,rfl⟩
theorem DPut.k {H:Hp} {a:Addr} {kvs:List (Key × V)} {k:Key} {v:V} (e:H a=some (.dK kvs)) (hl:kvs.length < sizeLine):DPut H a (kV k) v (upd H a (.dK (putK kvs k v))):=.inl ⟨kvs,k,e,rfl,hl,rfl⟩
theorem DPut.t {H:Hp} {a b:Addr} {kvs:List (List Key × V)} {k:List Key} {v:V} (e:H a=some (.dT kvs)) (eb:H b=some (.tup (k.map kV))) (hl:kvs.length < sizeLine) :
   DPut H a (.ref b) v (upd H a (.dT (putK kvs k v))):=.inr ⟨kvs,k,b,e,rfl,eb,hl,rfl⟩
section
variable {X:Cx} {pins:List (Addr × Obj)} {σ:St} {H:Hp} {s:Shared} {a:Addr} {y v:V} {u r:Value} {o:Option V} {A:Around} {E:Value→Shared→Prop}
theorem Inv.big (I:Inv X pins σ H s):sysModules < s.heap.objs.size:=by
 have h:mainGlobals < s.heap.objs.size:=(I.mod.glob.keeps I.bk).lt;exact Nat.lt_trans (by decide) h
theorem d_getItem {Q:Value→Shared→Prop} (hu:A.units+1 < cLine) (I:Inv X pins σ H s) (g:DGet H a y (some v)) (ry:RelV y u) (h:∀ w' s',Inv X pins σ H s'→RelV v w'→Q w' s') :
   wpAny (model X.prog X.w) A (getItem (.ref a) u) Q E s:=by
 rcases g with ⟨kvs,k,e,ey,l⟩ | ⟨kvs,k,b,e,ey,eb,l⟩
 · subst ey;obtain ⟨z,hd,vs,rel,dd⟩:=dk_rd I.hok e;obtain ⟨w',hw,rw'⟩:=RelO.some_of (v:=v) (o:=valueAt vs k) (by rw [l]; exact rel.val k);exact wpAny_getItem_of (kV_is ry) dd.mapOf hw (h w' _ (I.tok _) rw')
 · subst ey;cases (show u=Value.ref b from ry);obtain ⟨z,hd,xs,rel,dd⟩:=dt_rd I.hok e;obtain ⟨w',hw,rw'⟩:=RelO.some_of (v:=v) (o:=(atKey xs k).map (·.2)) (by rw [l]; exact rel.val k);obtain ⟨p,hp,hp2⟩:=Option.map_eq_some_iff.mp hw;refine wpAny_getItem_heap (tupleKind_room_in1 hu) (key_of I.hok eb) dd hp ?_;rw [hp2];exact h w' _ (I.tok _) rw'
theorem d_in {Q:Value→Shared→Prop} (hu:A.units+1 < cLine) (I:Inv X pins σ H s) (g:DGet H a y o) (ry:RelV y u) (h:∀ s',Inv X pins σ H s'→Q (.bool o.isSome) s') :
   wpAny (model X.prog X.w) A (compareOp .In u (.ref a)) Q E s:=by
 rcases g with ⟨kvs,k,e,ey,l⟩ | ⟨kvs,k,b,e,ey,eb,l⟩
 · subst ey;obtain ⟨z,hd,vs,rel,dd⟩:=dk_rd I.hok e;refine wpAny_in_of (kV_is ry) hd dd.mapOf ?_;rw [← (rel.val k).isSome_eq,← l];exact h _ (I.tok _)
 · subst ey;cases (show u=Value.ref b from ry);obtain ⟨z,hd,xs,rel,dd⟩:=dt_rd I.hok e;refine wpAny_in_heap (tupleKind_room_in1 hu) (key_of I.hok eb) hd dd ?_;have q:=(rel.val k).isSome_eq;rw [Option.isSome_map] at q;rw [← q,← l];exact h _ (I.tok _)
theorem d_notIn {Q:Value→Shared→Prop} (hu:A.units+1 < cLine) (I:Inv X pins σ H s) (g:DGet H a y o) (ry:RelV y u) (h:∀ s',Inv X pins σ H s'→Q (.bool (!o.isSome)) s') :
   wpAny (model X.prog X.w) A (compareOp .NotIn u (.ref a)) Q E s:=by
 rcases g with ⟨kvs,k,e,ey,l⟩ | ⟨kvs,k,b,e,ey,eb,l⟩
 · subst ey;obtain ⟨z,hd,vs,rel,dd⟩:=dk_rd I.hok e;refine wpAny_notIn_of (kV_is ry) hd dd.mapOf ?_;rw [← (rel.val k).isSome_eq,← l];exact h _ (I.tok _)
 · subst ey;cases (show u=Value.ref b from ry);obtain ⟨z,hd,xs,rel,dd⟩:=dt_rd I.hok e;refine wpAny_notIn_heap (tupleKind_room_in1 hu) (key_of I.hok eb) hd dd ?_;have q:=(rel.val k).isSome_eq;rw [Option.isSome_map] at q;rw [← q,← l];exact h _ (I.tok _)
theorem d_write {h':Heap} {t':Nat} {ob:HO} (I:Inv X pins σ H s) (mu:Mut (H a)) (hs:Heap.SameBut a s.heap h') (he:∃ q,h'.get? a=some q) (new:ObjOk X.prog X.w (upd H a ob) h' a ob) :
   Inv X pins σ (upd H a ob) { s with heap:=h',toks:=t' } :=
 I.write (x:=a) (e:=a) mu (.inl rfl) (fun b q hb z=>(hs.2 b hb).trans z) he new
theorem dk_new {P:Program} {w:World} {H':Hp} {h':Heap} {kvs:List (Key × V)} {vs:List (Key × Value)} (z:kvs.length≤sizeLine) (hd:(a == sysModules)=false) (rel:KV kvs vs) (dd:h'.DictOf (mixKind P w) a vs) :
   ObjOk P w H' h' a (.dK kvs):=⟨z,hd,vs,rel,dd⟩
theorem d_setItem {H':Hp} {Q:Unit→Shared→Prop} (hu:A.units+1 < cLine) (I:Inv X pins σ H s) (g:DPut H a y v H') (ry:RelV y u) (rv:RelV v r) (h:∀ s',Inv X pins σ H' s'→Q () s') :
   wpAny (model X.prog X.w) A (setItem (.ref a) u r) Q E s:=by
 rcases g with ⟨kvs,k,e,ey,l,eH⟩ | ⟨kvs,k,b,e,ey,eb,l,eH⟩
 · subst ey eH;obtain ⟨z,hd,vs,rel,dd⟩:=dk_of I.hok e;have hz:vs.length≤sizeLine:=by rw [← rel.length]; exact z
   have hl:(putK kvs k v).length≤sizeLine:=by have:=length_putK kvs k v; omega
   refine wpAny_setItem_pairs (hsz:=hz) (kV_is ry) dd fun h' dd' hs=>h _ ?_;have he:∃ q,h'.get? a=some q:=let ⟨q,_,_,hq,_⟩:=dd'; ⟨q,hq⟩
   exact d_write I (by rw [e]; exact True.intro) hs he (dk_new hl hd (rel.put k rv) dd')
 · subst ey eH;cases (show u=Value.ref b from ry);obtain ⟨z,hd,xs,rel,dd⟩:=dt_of I.hok e;have hz:xs.length≤sizeLine:=by rw [← Paired.length rel]; exact z
   have hl:(putK kvs k v).length≤sizeLine:=by have:=length_putK kvs k v; omega
   refine wpAny_setItem_heap (hsz:=hz) (tupleKind_room_in1 hu) (key_of I.hok eb) dd fun h' dd' hs=>h _ ?_;obtain ⟨q,es,ep,hq,h2,h3,h4,_,h5⟩:=dd';refine d_write I (by rw [e]; exact True.intro) hs ⟨q,hq⟩ ⟨hl,hd,_,(rel.put k eb rv).keeps fun c ys ec=>?_,q,es,ep,hq,h2,h3,h4,h5⟩;rw [upd_ne (ne_of ec e (fun z=>nomatch z))];exact ec
end
section
variable {X:Cx} {pins:List (Addr × Obj)} {σ:St} {H:Hp} {s:Shared} {a:Addr} {kvs:List (Key × V)} {k:Key} {u:Value} {A:Around} {E:Value→Shared→Prop}
theorem d_len {Q:Value→Shared→Prop} (I:Inv X pins σ H s) (e:Rd H a (.dK kvs)) (h:∀ t s',Inv X pins σ H s'→Q (.int kvs.length t) s'):wpAny (model X.prog X.w) A (call (.builtin "len") [.ref a]) Q E s:=by
 obtain ⟨z,hd,vs,rel,dd⟩:=dk_rd I.hok e;refine call_len_dict hd dd (by rw [← rel.length]; rw [sizeLine_eq] at z; omega) ?_;rw [← rel.length];exact h _ _ (I.tok _)
end
noncomputable def NoSl (i:Expr):Prop:=∀ ov iv,subscripted i false ov iv=operate [ov,iv] (getItem ov iv)
theorem subD_of {prog:Program} {w:World} {A:Around} {E:Value→Shared→Prop} {s:Shared} {env:Env} {value slice:Expr} {pos:Pos} {T id:String} {Q:Value→Shared→Prop}
   (hl:typeLookup (.type T) "__getitem__" = pure (some (.builtin id))) (hs:NoSl slice)
   (h:wpAny (model prog w) A (eval value env) (fun o s₁=>wpAny (model prog w) A (eval slice env) (fun i s₂=>s₂.TypeIs o T∧wpAny (model prog w) A (getItem o i) Q E s₂) E s₁) E s) :
   wpAny (model prog w) A (eval (.Subscript value slice pos) env) Q E s:=by
 refine Subscript_ (wpAny_mono h (fun o s₁ h₁=>wpAny_mono h₁ (fun i s₂ h₂=>?_) fun _ _ x=>x) fun _ _ x=>x);obtain ⟨hT,h₂⟩:=h₂;unfold subscriptTail;refine wpAny_bind ?_;rw [getitemInPython_of_ne hT.not_modules];refine wpAny_bind (wpAny_specialOf hT hl ?_)
 have fin:wpAny (model prog w) A (subscripted slice false o i) (fun r s₃=>wpAny (model prog w) A (letTemporaryGo value o r >>= fun _=>pure r) Q E s₃) E s₂:=by
   rw [hs o i];exact wpAny_operating (wpAny_mono h₂ (fun r s₃ h₃=>wpAny_bind (wpAny_letTemporaryGo (wpAny_pure h₃))) fun _ _ x=>x)
 first
   | exact wpAny_pure (wpAny_bind fin)
   | exact wpAny_bind (wpAny_pure (wpAny_bind fin))
   | exact wpAny_bind fin
theorem dict_typeIs {X:Cx} {pins:List (Addr × Obj)} {σ:St} {H:Hp} {s:Shared} {a:Addr} {y:V} {o:Option V} (I:Inv X pins σ H s) (g:DGet H a y o):s.TypeIs (.ref a) "dict" := by
 rcases g with ⟨kvs,k,e,_,_⟩ | ⟨kvs,k,b,e,_,_,_⟩
 · obtain ⟨_,_,vs,_,dd⟩:=dk_rd I.hok e;exact dd.typeIs
 · obtain ⟨_,_,xs,_,dd⟩:=dt_rd I.hok e;exact dd.typeIs
noncomputable def tDGet (td ty:TE):TE:=fun σ H Q=>td σ H fun x H1=>ty σ H1 fun y H2=>∃ a v,x = .ref a∧DGet H2 a y (some v)∧Q v H2
noncomputable def tDIn (ty td:TE):TE:=fun σ H Q=>ty σ H fun y H1=>td σ H1 fun x H2=>∃ a o,x = .ref a∧DGet H2 a y o∧Q (.bl o.isSome) H2
noncomputable def tDNotIn (ty td:TE):TE:=fun σ H Q=>ty σ H fun y H1=>td σ H1 fun x H2=>∃ a o,x = .ref a∧DGet H2 a y o∧Q (.bl (!o.isSome)) H2
noncomputable def sDPut (td ty tv:TE):TS:=fun D σ H=>tv σ H fun v H1=>td σ H1 fun x H2=>ty σ H2 fun y H3=>∃ a H4,x = .ref a∧DPut H3 a y v H4∧D.nx σ H4
section
variable {X:Cx} {o i e value:Expr} {pos pos' tpos:Pos} {td ty tv:TE}
theorem pe_dget (hu:X.A.units+1 < cLine) (ho:PE X o td) (hi:PE X i ty) (hs:NoSl i):PE X (.Subscript o i pos) (tDGet td ty):=by
 intro pins s σ H Q I h;refine subD_of PySem.F.slot_dict_getitem.lookup hs (thn (ho pins s σ H _ I h) fun u s1 ⟨x,H1,I1,rx,q1⟩=>thn (hi pins s1 σ H1 _ I1 q1) fun iv s2 ⟨y,H2,I2,ry,a,v,ex,g,q2⟩=>?_);subst ex;obtain rfl:u=Value.ref a:=rx;exact ⟨dict_typeIs I2 g,d_getItem hu I2 g ry fun w' s3 I3 rw'=>⟨v,H2,I3,rw',q2⟩⟩
theorem pc_din (hu:X.A.units+1 < cLine) (hi:PE X i ty) (ho:PE X o td):PC X .In i o (tDIn ty td):=by
 intro pins s σ H Q I h;refine thn (hi pins s σ H _ I h) fun iv s1 ⟨y,H1,I1,ry,q1⟩=>thn (ho pins s1 σ H1 _ I1 q1) fun u s2 ⟨x,H2,I2,rx,a,ov,ex,g,q2⟩=>?_;subst ex;obtain rfl:u=Value.ref a:=rx;exact d_in hu I2 g ry fun s3 I3=>⟨.bl ov.isSome,H2,I3,rfl,q2⟩
theorem pc_dnotin (hu:X.A.units+1 < cLine) (hi:PE X i ty) (ho:PE X o td):PC X .NotIn i o (tDNotIn ty td):=by
 intro pins s σ H Q I h;refine thn (hi pins s σ H _ I h) fun iv s1 ⟨y,H1,I1,ry,q1⟩=>thn (ho pins s1 σ H1 _ I1 q1) fun u s2 ⟨x,H2,I2,rx,a,ov,ex,g,q2⟩=>?_;subst ex;obtain rfl:u=Value.ref a:=rx;exact d_notIn hu I2 g ry fun s3 I3=>⟨.bl (!ov.isSome),H2,I3,rfl,q2⟩
theorem ps_dput (hu:X.A.units+1 < cLine) (ho:PE X o td) (hi:PE X i ty) (hv:PE X value tv) (hs:swapsWith value (some (.Subscript o i pos')) pos.line X.env=pure false) :
   PS X (.Assign [.Subscript o i pos'] value pos) (sDPut td ty tv):=by
 intro pins s σ H D I h;refine wpAny_Assign_Subscript (thn (hv pins s σ H _ I h) fun r s1 ⟨v,H1,I1,rv,q1⟩=>thn (ho pins s1 σ H1 _ I1 q1) fun u s2 ⟨x,H2,I2,rx,q2⟩=>thn (hi pins s2 σ H2 _ I2 q2) fun iv s3 ⟨y,H3,I3,ry,a,H4,ex,g,q3⟩=>?_) hs;subst ex;obtain rfl:u=Value.ref a:=rx;exact d_setItem hu I3 g ry rv fun s4 I4=>⟨σ,H4,I4,q3⟩
end
theorem dk_empty {P:Program} {w:World} {H:Hp} (h:Heap) (hb:sysModules < h.objs.size):ObjOk P w H (h.push { cls:=.type "dict",data:=.dict #[] }) h.objs.size (.dK []) :=
 ⟨Nat.zero_le _,beq_eq_false_iff_ne.mpr (Ne.symm (Nat.ne_of_lt hb)),[],.nil,Heap.DictOf.new h⟩
noncomputable def tDNewK:TE:=fun _ H Q=>∀ p,H p=none→Q (.ref p) (upd H p (.dK []))
section
variable {X:Cx} {pos:Pos}
theorem pe_dnewK:PE X (.Dict [] [] pos) tDNewK:=fun pins s σ H Q I h =>
 wpAny_Dict_empty ⟨.ref s.heap.objs.size,_,I.laid (a:=s.heap.objs.size) (o:=.dK []) (t':=s.toks) (fun _ _ q=>Heap.get?_push_of_some _ q) (Nat.le_refl _) (dk_empty s.heap I.big),rfl,h _ (I.hok.fresh (Nat.le_refl _))⟩
end
structure M1 (X:Cx) (o:Expr) (m:Str) (apos:Pos) (e:Expr) (cpos:Pos):Prop where
 base:attributeBase o m X.env (eval o X.env)=eval o X.env
 few:((backTo cpos (starEach [e] X.env)).all (fun x=>!x.1) && (backToKw cpos (keywordEach [] X.env)).all (fun x=>x.1.isSome)
   && decide (([e]:List Expr).length+([]:List Keyword).length+(if ([]:List Keyword).isEmpty then 0 else 1) < 30))=true
 line:(apos.endLine == cpos.line)=true
 trees:backTo cpos (starEach [e] X.env)=[(false,eval e X.env)]
structure M2 (X:Cx) (o:Expr) (m:Str) (apos:Pos) (e f:Expr) (cpos:Pos):Prop where
 base:attributeBase o m X.env (eval o X.env)=eval o X.env
 few:((backTo cpos (starEach [e,f] X.env)).all (fun x=>!x.1) && (backToKw cpos (keywordEach [] X.env)).all (fun x=>x.1.isSome)
   && decide (([e,f]:List Expr).length+([]:List Keyword).length+(if ([]:List Keyword).isEmpty then 0 else 1) < 30))=true
 line:(apos.endLine == cpos.line)=true
 trees:backTo cpos (starEach [e,f] X.env)=[(false,eval e X.env),(false,eval f X.env)]
noncomputable def IsD (H:Hp) (a:Addr):Prop:=(∃ kvs,Rd H a (.dK kvs))∨∃ kvs,Rd H a (.dT kvs)
theorem isD_at {X:Cx} {pins:List (Addr × Obj)} {σ:St} {H:Hp} {s:Shared} {a:Addr} (I:Inv X pins σ H s) (d:IsD H a) :
   s.TypeIs (.ref a) "dict" ∧ (∀ b,Value.ref a = .ref b→∃ ob,s.heap.get? b=some ob∧ob.dict=none)∧(a == sysModules)=false:=by
 rcases d with ⟨kvs,e⟩ | ⟨kvs,e⟩
 · obtain ⟨_,hd,vs,_,dd⟩:=dk_rd I.hok e;refine ⟨dd.typeIs,fun b q=>?_,hd⟩;cases q;obtain ⟨ob,_,_,h1,h2,_⟩:=dd;exact ⟨ob,h1,h2.2.1⟩
 · obtain ⟨_,hd,xs,_,dd⟩:=dt_rd I.hok e;refine ⟨dd.typeIs,fun b q=>?_,hd⟩;cases q;obtain ⟨ob,_,_,h1,h2,_⟩:=dd;exact ⟨ob,h1,h2.2.1⟩
section
variable {X:Cx} {pins:List (Addr × Obj)} {σ:St} {H:Hp} {s:Shared} {a:Addr} {y d:V} {u r:Value} {o:Option V} {A:Around} {E:Value→Shared→Prop}
end
section
variable {X:Cx} {o e f:Expr} {apos cpos:Pos} {td ty tx:TE}
end
section
variable {X:Cx} {pins:List (Addr × Obj)} {σ:St} {H:Hp} {s:Shared} {a:Addr} {kvs:List (Key × V)} {A:Around} {E:Value→Shared→Prop}
end
section
variable {X:Cx} {pins:List (Addr × Obj)} {σ:St} {H:Hp} {s:Shared} {a:Addr} {y:V} {u:Value} {A:Around} {E:Value→Shared→Prop}
end
end L2
namespace L2
open PySem PySem.Spec PyProof.Rows
section
variable {prog:Program} {w:World} {A:Around} {E:Value→Shared→Prop}
end
section
variable {X:Cx}
end
end L2
namespace L2
open PySem PySem.Spec PyProof.Rows
section
variable {X:Cx} {pins:List (Addr × Obj)} {σ:St} {H:Hp} {s:Shared} {h':Heap}
theorem Inv.turnedNew {t':Nat} {ch:List Addr} {T:Addr} {ob:HO} (I:Inv X pins σ H s) (k:∀ b o,b ∉ ch→s.heap.get? b=some o→h'.get? b=some o) (hf:∀ b∈ch,FpOk X pins H b) (hT:s.heap.objs.size≤T)
   (new:ObjOk X.prog X.w (upd H T ob) h' T ob):Inv X pins σ (upd H T ob) { s with heap:=h',toks:=t' }:=by
 have hn:H T=none:=I.hok.fresh hT
 have nit:∀ b u,H b=some u→b ∉ ch:=fun b u e z=>by
   have q:=(hf b z).1;rw [q] at e; cases e
 refine I.step (g':=s.gens) (d':=s.drawn) (ch:=ch) (fun b hb=>⟨(hf b hb).2.2.2.1,(hf b hb).2.1,(hf b hb).2.2.2.2.1,(hf b hb).2.2.2.2.2⟩) (fun b o _ _ hc e _=>k b o hc e) (fun b o _ _ hc e _=>⟨o.slots,k b o hc e⟩)
   (fun b o _ e n=>?_) (fun b o hc e=>⟨o,k b o hc e⟩) (fun b xs e=>?_) (fun b o u e=>?_) (fun b ps e=>⟨#[],?_⟩) (fun m hm=>?_) (fun b u e=>?_) I.bare
 · rw [upd_ne (Nat.ne_of_lt (Nat.lt_of_lt_of_le (Heap.lt_size e) hT))]; exact n
 · rw [upd_ne (ne_of_none e hn)]; exact e
 · rw [upd_ne (ne_of_none e hn)]; exact e
 · rw [upd_ne (ne_of_none e hn),e]; simp
 · obtain ⟨o,es,ep,ho,r⟩:=hm;exact ⟨o,es,ep,k _ o (fun z=>(hf _ z).2.1 rfl) ho,r⟩
 · by_cases hb:b=T
   · subst hb;rw [upd_same] at e;cases e;exact new
   · rw [upd_ne hb] at e;refine (I.hok b u e).stay (fun c v hc q=>k c v ?_ q) (fun c q=>by rw [upd_ne (ne_of_none q hn)]; exact q) fun c xs q=>by rw [upd_ne (ne_of_none q hn)]; exact q
     rcases hc with z | z
     · rw [z]; exact nit b u e
     · exact nit c _ z
end
section
variable {X:Cx}
theorem pi_one {tg:Expr} {pins:List (Addr × Obj)} {σ:St} {H:Hp} {s:Shared} {R:It→Hp→Prop} {J:It} {tn:Nat→Heap→Prop} {tk:Nat} (I:Inv X pins σ H s) (o:Obj)
   (T:Turn X.prog X.w X.K tg J [s.heap.objs.size] s.heap.objs.size tn) (st:tn 0 (s.heap.push o)) (q:R J H):PIE X pins σ tg R (.ref s.heap.objs.size) { s with heap:=s.heap.push o,toks:=tk }:=by
 refine ⟨s.heap.objs.size,[s.heap.objs.size],tn,J,H,rfl,I.kept fun b ob e=>Heap.get?_push_of_some _ e,T,st,fun b hb=>?_,q⟩;have e:b=s.heap.objs.size:=by simpa using hb
 subst e;exact I.fpOk (Nat.le_refl _) (I.hok.fresh (Nat.le_refl _))
end
noncomputable def RgC (i j c:Int) (n:Nat):Prop:=c≠0∧c.natAbs < 1073741824∧Builtin.Range.small i j c=true∧Builtin.Range.rangeSize i j c=n
theorem RgC.neg {i j:Int} (ha:-(2 ^ 62)≤i) (ha':i < 2 ^ 62) (hb:-(2 ^ 62)≤j) (hb':j < 2 ^ 62):RgC i j (-1) (i - j).toNat :=
 ⟨by decide,by decide,PySem.W.small_down ha ha' hb hb',PySem.W.rangeSize_downNat i j⟩
section
variable {X:Cx} {tg:Expr}
end
section
variable {X:Cx} {tg:Expr}
end
noncomputable def Its (x:Str):It:=⟨fun i _=>i < x.cps.size,fun i H v H'=>H'=H∧∃ c,x.cps[i]? = some c∧v = .str ⟨#[c]⟩,fun i _=>x.cps.size≤i⟩
theorem turn_str {P:Program} {w:World} {K:PySem.W.Frag} {tg:Expr} (it:Addr) (x:Str) (t:Tok) (ty:String) (hty:ty = "str_ascii_iterator" ∨ ty = "str_iterator") :
   Turn P w K tg (Its x) [it] it (fun i h=>h.IsStrIter it ty x t i) where
 mem:=by simp
 obj:=fun i h st b hb=>by
   have e:b=it:=by simpa using hb
   subst e;obtain ⟨o,e,c,d⟩:=st;exact ⟨o,e,fun v z=>by rw [d] at z; cases z⟩
 keep:=fun i h h' st k=>let ⟨o,ho,r⟩:=st; ⟨o,k it (by simp) o ho,r⟩
 item:=by
   intro X hP hw hK hc i pins s σ H E I hf st hg;subst hP hw hK;obtain ⟨f0,f1,f2,f3,f4,f5⟩:=hf it (by simp)
   have W:Walks X.prog X.w X.A it [it] [it] x.cps.size (SignAt x) (fun i h=>h.IsStrIter it ty x t i):=by
     rcases hty with e | e
     · rw [e]; exact Walks.strAscii (I.ok.hd hc) it x t
     · rw [e]; exact Walks.strWide (I.ok.hd hc) it x t
   have hno:["enumerate","zip","dict_itemiterator","dict_reverseitemiterator","odict_iterator","itertools.zip_longest","itertools.pairwise"].contains ty=false:=by
     rcases hty with e | e
     · rw [e]; decide
     · rw [e]; decide
   refine W.item i s _ _ hg st fun v h' tk hv st' kk=>?_;obtain ⟨c,u,hcx,rfl⟩:=hv;have I1:Inv X pins σ H { s with heap:=h',toks:=tk }:=I.turned (fun b o hb e=>kk b o (by simpa using hb) e) f0 f1 f3 f4 f5;obtain ⟨oi,e,cc,dd⟩:=id st';exact ⟨_,rfl,go_of (s:={ s with heap:=h',toks:=tk }) e cc dd hno ⟨.str ⟨#[c]⟩,H,I1,⟨u,rfl⟩,⟨rfl,c,hcx,rfl⟩,st',fun b hb=>(hf b hb).1⟩⟩
 done:=by
   intro X hP hw hK hc i pins s σ H E I hf st hg;subst hP hw hK;obtain ⟨f0,f1,f2,f3,f4,f5⟩:=hf it (by simp);have hx:x.cps[i]? = none:=Array.getElem?_eq_none hg;rcases hty with e | e
   · rw [e] at st;exact wpAny_pyNext_ascii_end (I.ok.hd hc) st hx fun h' eb=>⟨rfl,I.turned (t':=s.toks) (fun b o hb e=>eb b o hb e) f0 f1 f3 f4 f5⟩
   · rw [e] at st;exact wpAny_pyNext_wide_end (I.ok.hd hc) st hx fun h' eb=>⟨rfl,I.turned (t':=s.toks) (fun b o hb e=>eb b o hb e) f0 f1 f3 f4 f5⟩
 self:=fun A i s Q E st h=>by
   rcases hty with e | e
   · rw [e] at st; exact wpAny_pyIter_striter_ascii st h
   · rw [e] at st; exact wpAny_pyIter_striter_wide st h
noncomputable def iStr (te:TE):TI:=fun σ H R=>te σ H fun v H1=>∃ x,v = .str x∧R (Its x) H1
theorem pi_str {X:Cx} {tg e:Expr} {te:TE} (he:PE X e te):PI X tg e (iStr te):=by
 intro pins s σ H R I h;refine thn (he pins s σ H _ I h) fun v s1 ⟨y,H1,I1,r1,x,ex,q⟩=>?_;subst ex;obtain ⟨t,rfl⟩:=r1;cases ha:x.cps.all (· < 128)
 · exact wpAny_pyIter_wide ha (pi_one (tk:=s1.toks) I1 _ (turn_str _ x t "str_iterator" (.inr rfl)) ⟨_,Heap.get?_push_size _ rfl,rfl,rfl⟩ q)
 · exact wpAny_pyIter_ascii ha (pi_one (tk:=s1.toks) I1 _ (turn_str _ x t "str_ascii_iterator" (.inl rfl)) ⟨_,Heap.get?_push_size _ rfl,rfl,rfl⟩ q)
section
variable {prog:Program} {w:World} {A:Around} {E:Value→Shared→Prop} {s:Shared}
end
section
variable {X:Cx} {pins:List (Addr × Obj)} {σ:St} {H:Hp} {s:Shared} {d:Addr} {o:Obj}
end
section
variable {P:Program} {w:World} {K:PySem.W.Frag} {tg:Expr} {d:Addr} {o:Obj} {es:Array DictEntry} {ep:Nat}
end
section
variable {X:Cx} {tg e:Expr} {td:TE} {apos cpos:Pos}
end
noncomputable def Ite (K:PySem.W.Frag) (a:Addr):It :=
 ⟨fun i H=>∃ (xs:List V) (x:V),SqL K H a xs∧xs[i]? = some x,fun i H v H'=>∃ T x,v = .ref T∧H T=none∧H'=upd H T (.tup [.int (i:Nat),x])∧∀ xs,SqL K H a xs→xs[i]? = some x,fun i H=>∃ xs:List V,SqL K H a xs∧xs.length≤i⟩
theorem turn_enum {P:Program} {w:World} {K:PySem.W.Frag} {elts:List Expr} {kk:Nat} {tpos:Pos} (a e it:Addr) :
   Turn P w K (.Tuple elts kk tpos) (Ite K a) [e,it] e (fun i h=>(∃ old,IsEnum h e it ((i:Nat):Int) old)∧h.IsListIter it a i∧e≠it) where
 mem:=by simp
 obj:=fun i h st b hb=>by
   obtain ⟨⟨old,he⟩,⟨o,ho,hc,hd⟩,_⟩:=st;have e':b=e∨b=it:=by simpa using hb
   rcases e' with z | z
   · rw [z]; exact ⟨_,he,fun v q=>nomatch q⟩
   · rw [z]; exact ⟨o,ho,fun v q=>by rw [hd] at q; cases q⟩
 keep:=fun i h h' st k=>let ⟨⟨old,he⟩,hi,hne⟩:=st; ⟨⟨old,k e (by simp) _ he⟩,hi.at fun o q=>k it (by simp) o q,hne⟩
 item:=by
   intro X hP hw hK hc i pins s σ H E I hf st hg;subst hP hw hK;obtain ⟨⟨old,he⟩,hit,hne⟩:=st;obtain ⟨xs,x,hq,hx⟩:=hg;obtain ⟨its,rv,p,hz⟩:=I.list hq;obtain ⟨u,hu,ru⟩:=rv.get hx;have hel:e < s.heap.objs.size:=Heap.lt_size he;have hil:it < s.heap.objs.size:=by obtain ⟨_,q,_⟩:=hit; exact Heap.lt_size q
   refine wpAny_pyNext_enum_item he hit p.isList (x:=u) (by simpa using hu) hne fun h' ho hit' hT hsz hk=>?_;refine ⟨_,rfl,wpAny_letOwnedTupleGo_enum (s:={ s with heap:=h',toks:=s.toks+1 }) ho fun h'' he' sb=>?_⟩;have hT2:h''.get? s.heap.objs.size=some { cls:=.type "tuple",data:=.seq #[.int i s.toks,u] }:=(sb.2 _ (Nat.ne_of_gt hel)).trans hT
   have new:ObjOk X.prog X.w (upd H s.heap.objs.size (.tup [.int (i:Nat),x])) h'' s.heap.objs.size (.tup [.int (i:Nat),x]) :=
     ⟨by show 2≤sizeLine; decide,[.int i s.toks,u],.cons ⟨_,rfl⟩ (.cons ru .nil),⟨_,hT2,rfl,_,rfl⟩⟩
   have I1:Inv X pins σ (upd H s.heap.objs.size (.tup [.int (i:Nat),x])) { s with heap:=h'',toks:=s.toks+1 } :=
     I.turnedNew (ch:=[e,it]) (fun b ob hb q=>(sb.2 b (fun z=>hb (by simp [z]))).trans (hk b ob (fun z=>hb (by simp [z])) (fun z=>hb (by simp [z])) q)) hf (Nat.le_refl _) new
   refine ⟨.ref s.heap.objs.size,_,I1,rfl,⟨_,x,rfl,I.hok.fresh (Nat.le_refl _),rfl,fun ys hy=>by rw [I.list_inj hy hq]; exact hx⟩,⟨⟨u,?_⟩,hit'.at fun o q=>(sb.2 it (Ne.symm hne)).trans q,hne⟩,fun b hb=>?_⟩
   · have e1:((i+1:Nat):Int)=(i:Int)+1:=by omega
     rw [e1]; exact he'
   · have hb':b < s.heap.objs.size:=by
       have e':b=e∨b=it:=by simpa using hb
       rcases e' with z | z
       · rw [z]; exact hel
       · rw [z]; exact hil
     rw [upd_ne (Nat.ne_of_lt hb')];exact (hf b hb).1
 done:=by
   intro X hP hw hK hc i pins s σ H E I hf st hg;subst hP hw hK;obtain ⟨⟨old,he⟩,hit,hne⟩:=st;obtain ⟨xs,hq,hx⟩:=hg;obtain ⟨its,rv,p,hz⟩:=I.list hq;obtain ⟨f0,f1,f2,f3,f4,f5⟩:=hf it (by simp);have hl:=rv.length;exact wpAny_pyNext_enum_end (I.ok.hd hc) he hit p.isList (by simp; omega) fun h' eb=>⟨rfl,I.turned (t':=s.toks) (fun b o hb q=>eb b o hb q) f0 f1 f3 f4 f5⟩
 self:=fun A i s Q E st h=>let ⟨⟨_,he⟩,_⟩:=st; wpAny_pyIter_enum he h
noncomputable def iEnum (K:PySem.W.Frag) (ta:TA):TI:=fun σ H R=>ta σ H fun vs H1=>∃ a xs,vs=[.ref a]∧SqL K H1 a xs∧R (Ite K a) H1
theorem pi_enum {X:Cx} {e:Expr} {ta:TA} {p pos tpos:Pos} {elts:List Expr} {kk:Nat} (hg:Gl X "enumerate") (hm:X.mg "enumerate" = none) (ha:PA X [e] ta) (hs:starEach [e] X.env=[(false,eval e X.env)]:=by rfl) :
   PI X (.Tuple elts kk tpos) (.Call (.Name "enumerate" p) [e] [] pos) (iEnum X.K ta):=by
 intro pins s σ H R I h;refine Call_ (ld_blt I hg hm boot_enumerate (PyProof.Rows.callWith_type1 (thn (ha pos pins s σ H _ I h) fun us s1 ⟨vs,H1,I1,r1,q1⟩=>?_) hs rfl));obtain ⟨a,xs,ex,hq,q⟩:=q1;subst ex
 cases r1 with
 | cons r rr =>
   cases rr;cases r;obtain ⟨its,rv,p',hz⟩:=I1.list hq;refine call_enumerate_list p'.isList fun h' he hit hsz hk=>wpAny_pyIter_enum he ?_;have I2:Inv X pins σ H1 { s1 with heap:=h' }:=I1.kept (t':=s1.toks) hk;refine ⟨s1.heap.objs.size+1,[s1.heap.objs.size+1,s1.heap.objs.size],_,_,H1,rfl,I2,turn_enum a (s1.heap.objs.size+1) s1.heap.objs.size,⟨⟨.none,he⟩,hit,Nat.succ_ne_self _⟩,fun b hb=>?_,q⟩;have e':b=s1.heap.objs.size+1∨b=s1.heap.objs.size:=by simpa using hb
   have hle:s1.heap.objs.size≤b:=by
     rcases e' with z | z
     · rw [z]; exact Nat.le_add_right _ _
     · rw [z]; exact Nat.le_refl _
   exact I1.fpOk hle (I1.hok.fresh hle)
end L2
section
namespace Bits
open PySem PyProof.Rows
end Bits
end
section
namespace TL
open PySem PySem.Builtin PySem.Builtin.Str PySem.StrLaws
noncomputable abbrev tl (x:Str):List Nat:=x.cps.toList
theorem len_tl (x:Str):x.length=(tl x).length:=by simp [tl,Str.length]
theorem ext_tl {x y:Str} (h:tl x=tl y):x=y:=Str.ext' (Array.toList_inj.mp h)
theorem tl_append (x y:Str):tl (x++y)=tl x++tl y:=by
 show (x++y).cps.toList=_;rw [Str.cps_append,Array.toList_append]
theorem tl_ofString (s:String):tl (Str.ofString s)=s.toList.map Char.toNat:=PyProof.Rows.signs_ofString s
noncomputable def pre (S l:List Nat):Bool:=l.take S.length == S
noncomputable def spl (S:List Nat):Nat→List Nat→List Nat→List (List Nat)
 | _,acc,[]=>[acc]
 | 0,acc,c :: r=>if pre S (c :: r)=true then acc :: spl S (S.length - 1) [] r else spl S 0 (acc++[c]) r
 | k+1,acc,_ :: r=>spl S k acc r
noncomputable def par (S:List Nat):List Nat→List Nat→Option (List Nat × List Nat)
 | _,[]=>none
 | acc,c :: r=>if pre S (c :: r)=true then some (acc,(c :: r).drop S.length) else par S (acc++[c]) r
theorem spl_nil (S:List Nat) (k:Nat) (acc:List Nat):spl S k acc []=[acc]:=by cases k <;> rfl
theorem spl_hit {S acc r:List Nat} {c:Nat} (h:pre S (c :: r)=true):spl S 0 acc (c :: r)=acc :: spl S (S.length - 1) [] r:=by
 show (if pre S (c :: r)=true then acc :: spl S (S.length - 1) [] r else spl S 0 (acc++[c]) r)=_;rw [if_pos h]
theorem spl_miss {S acc r:List Nat} {c:Nat} (h:pre S (c :: r)=false):spl S 0 acc (c :: r)=spl S 0 (acc++[c]) r:=by
 show (if pre S (c :: r)=true then acc :: spl S (S.length - 1) [] r else spl S 0 (acc++[c]) r)=_;rw [if_neg (by rw [h]; exact Bool.false_ne_true)]
theorem spl_pass (S:List Nat):∀ (k:Nat) (acc l:List Nat),spl S k acc l=spl S 0 acc (l.drop k)
 | 0,_,_=>by rw [List.drop_zero]
 | k+1,acc,[]=>by rw [List.drop_nil,spl_nil,spl_nil]
 | k+1,acc,c :: r=>by
   show spl S k acc r=spl S 0 acc (r.drop k);exact spl_pass S k acc r
theorem pre_nil {S:List Nat} (hS:S≠[]):pre S []=false:=by
 cases S with
 | nil=>exact absurd rfl hS
 | cons s S=>rfl
theorem getElem_drop_cons {L:List Nat} {a:Nat} (h:a < L.length):∃ c,L.drop a=c :: L.drop (a+1):=⟨L[a],List.drop_eq_getElem_cons h⟩
theorem spl_run (S L:List Nat):∀ (m a:Nat) (acc:List Nat),a+m≤L.length→(∀ k,a≤k→k < a+m→pre S (L.drop k)=false) →
   spl S 0 acc (L.drop a)=spl S 0 (acc++(L.drop a).take m) (L.drop (a+m))
 | 0,a,acc,_,_=>by rw [List.take_zero,List.append_nil,Nat.add_zero]
 | m+1,a,acc,h,hn=>by
   have hlt:a < L.length:=by omega
   obtain ⟨c,e⟩:=getElem_drop_cons hlt;have h0:=hn a (Nat.le_refl _) (by omega);have ih:=spl_run S L m (a+1) (acc++[c]) (by omega) (fun k h1 h2=>hn k (by omega) (by omega));have e2:a+1+m=a+(m+1):=by omega
   rw [e2] at ih;rw [e] at h0;rw [e,spl_miss h0,ih,List.take_succ_cons,List.append_assoc] <;> rfl
theorem drop_two (L:List Nat) (a b:Nat):(L.drop a).drop b=L.drop (a+b):=by
 first
   | rw [List.drop_drop]
   | rw [List.drop_drop,Nat.add_comm]
theorem spl_at {S L:List Nat} (hS:S≠[]) {c:Nat} {acc:List Nat} (h:pre S (L.drop c)=true):spl S 0 acc (L.drop c)=acc :: spl S 0 [] (L.drop (c+S.length)):=by
 rw [← drop_two]
 cases e:L.drop c with
 | nil=>rw [e,pre_nil hS] at h; cases h
 | cons d r =>
   rw [e] at h;rw [spl_hit h,spl_pass]
   cases S with
   | nil=>exact absurd rfl hS
   | cons s S=>rfl
theorem at_iff {x y:Str} (hy:tl y≠[]) (i:Nat):At x y x.length i↔pre (tl y) ((tl x).drop i)=true:=by
 have hx:=len_tl x;have hl:=len_tl y;constructor
 · intro h;have h2:=h.2;rw [subAt_eq,hl] at h2;exact h2
 · intro h;have e:((tl x).drop i).take (tl y).length=tl y:=eq_of_beq h;have e1:=congrArg List.length e;rw [List.length_take,List.length_drop] at e1;have e2:0 < (tl y).length:=List.length_pos_iff.mpr hy;refine ⟨by omega,?_⟩;rw [subAt_eq,hl];exact h
theorem no_at {x y:Str} (hy:tl y≠[]) {i:Nat} (h:¬ At x y x.length i):pre (tl y) ((tl x).drop i)=false:=by
 cases hp:pre (tl y) ((tl x).drop i) with
 | false=>rfl
 | true=>exact absurd ((at_iff hy i).mpr hp) h
theorem len1 {y:Str} (hy:tl y≠[]):1≤y.length:=by
 have e2:0 < (tl y).length:=List.length_pos_iff.mpr hy;rw [len_tl y];exact e2
theorem tl_strSub (x:Str) (i j:Nat):tl (strSub x i j)=((tl x).drop i).take (j - i):=strSub_toList x i j
theorem tl_strSub_end (x:Str) (i:Nat):tl (strSub x i x.length)=(tl x).drop i:=by
 rw [tl_strSub,len_tl x];exact List.take_of_length_le (by rw [List.length_drop] <;> omega)
theorem parts_spl {x y:Str} (hy:tl y≠[]):∀ (cuts:List Nat) (a f:Nat),a≤(tl x).length→ChainG x y x.length a cuts f→(∀ k,f≤k→¬ At x y x.length k) →
   (partsFrom x y.length a cuts).map tl=spl (tl y) 0 [] ((tl x).drop a)
 | [],a,f,ha,h,hn=>by
   have e:f=a:=h;subst e;show [tl (strSub x f x.length)]=_;have run:=spl_run (tl y) (tl x) ((tl x).length - f) f [] (by omega) (fun k h1 _=>no_at hy (hn k h1));have e2:f+((tl x).length - f)=(tl x).length:=by omega
   rw [e2,List.drop_length,spl_nil,List.nil_append,List.take_of_length_le (by rw [List.length_drop] <;> omega)] at run
   rw [run,tl_strSub_end]
 | c :: r,a,f,ha,h,hn=>by
   obtain ⟨h1,h2,h3,h4⟩:=h;have hc:c+y.length≤x.length:=h2.1;have hx:=len_tl x;have hl:=len_tl y;have ih:=parts_spl hy r (c+y.length) f (by omega) h4 hn;show tl (strSub x a c) :: (partsFrom x y.length (c+y.length) r).map tl=_;have run:=spl_run (tl y) (tl x) (c - a) a [] (by omega) (fun k k1 k2=>no_at hy (h3 k k1 (by omega)));have e2:a+(c - a)=c:=by omega
   rw [e2,List.nil_append,spl_at hy ((at_iff hy c).mp h2)] at run;rw [run,ih,tl_strSub,hl]
theorem split_spl (x y:Str) (hy:tl y≠[]) (hk:¬ Builtin.Str.strKind x < Builtin.Str.strKind y):(Txt.split x y).map tl=spl (tl y) 0 [] (tl x):=by
 obtain ⟨f,g,hn⟩:=occ_tight x y (len1 hy);have key:=parts_spl hy _ 0 f (Nat.zero_le _) g hn;rw [List.drop_zero] at key
 have none_case:occurrences x y 0 x.length (x.length+1)=[]→[x].map tl=spl (tl y) 0 [] (tl x):=fun ho=>by
   rw [ho] at key;rw [← key];show [tl x]=[tl (strSub x 0 x.length)];rw [sub_whole]
 unfold Txt.split;by_cases h1:(decide (x.length < y.length) || decide (Builtin.Str.strKind x < Builtin.Str.strKind y))=true
 · rw [if_pos h1]
   have hlt:x.length < y.length:=by
     simp only [Bool.or_eq_true,decide_eq_true_eq] at h1;rcases h1 with h | h
     · exact h
     · exact absurd h hk
   refine none_case ?_
   cases ho:occurrences x y 0 x.length (x.length+1) with
   | nil=>rfl
   | cons c r =>
     rw [ho] at g;have hc:c+y.length≤x.length:=g.2.1.1;omega
 · rw [if_neg h1];by_cases h2:(occurrences x y 0 x.length (x.length+1)).isEmpty=true
   · rw [if_pos h2];exact none_case (List.isEmpty_iff.mp h2)
   · rw [if_neg h2,partsBetween_eq];exact key
theorem kind_ok {x y:Str} (h:y.cps.all (· < 256)=true):¬ Builtin.Str.strKind x < Builtin.Str.strKind y:=by
 have e:Builtin.Str.strKind y=1:=by unfold PySem.Builtin.Str.strKind; rw [if_pos h]
 rw [e];unfold PySem.Builtin.Str.strKind;split
 · omega
 · split <;> omega
noncomputable def joinL (S:List Nat):List (List Nat)→List Nat
 | []=>[]
 | [p]=>p
 | p :: q :: r=>p++(S++joinL S (q :: r))
theorem tl_join (y:Str):∀ parts:List Str,tl (Str.join y parts)=joinL (tl y) (parts.map tl)
 | []=>rfl
 | [_]=>rfl
 | x :: z :: r=>by
   show tl (x++y++Str.join y (z :: r))=tl x++(tl y++joinL (tl y) ((z :: r).map tl));rw [tl_append,tl_append,tl_join y (z :: r),List.append_assoc]
theorem join_eq (y:Str) (parts:List Str):Txt.join y parts=Str.join y parts:=glued_eq_join y parts
end TL
end
namespace L2
open PySem PySem.Spec PyProof.Rows
theorem vals_strs:∀ l:List (Str × Tok),Vals ((l.map (·.1)).map V.str) (strValues l)
 | []=>.nil
 | p :: r=>.cons ⟨p.2,rfl⟩ (vals_strs r)
theorem strs_of_vals:∀ {ys:List Str} {us:List Value},Vals (ys.map V.str) us→StrsAre us ys
 | [],_,.nil=>.nil
 | y :: ys,_,.cons r t=>by
   obtain ⟨k,rfl⟩:=r;exact .cons y k (strs_of_vals t)
noncomputable def rNewStrs (ys:List Str):Hp→VK→Prop:=fun H Q=>∀ p,H p=none→Q (.ref p) (upd H p (.lst (ys.map V.str)))
section
variable {X:Cx} {pins:List (Addr × Obj)} {σ:St} {H:Hp} {s:Shared} {Q:VK}
theorem laid_strs {l:List (Str × Tok)} {ys:List Str} {k:Nat} (I:Inv X pins σ H s) (e:l.map (·.1)=ys) (hz:ys.length≤sizeLine) (h:rNewStrs ys H Q) :
   EP X pins σ Q (.ref s.heap.objs.size) { s with toks:=k,heap:=s.heap.push { cls:=.type "list",data:=.seq (strValues l).toArray } }:=by
 have hp:=I.hok.fresh (Nat.le_refl _);refine ⟨.ref s.heap.objs.size,upd H s.heap.objs.size (.lst (ys.map V.str)),I.laid (fun b u q=>Heap.get?_push_of_some _ q) (Nat.le_refl _) ⟨by rw [List.length_map]; exact hz,strValues l,_,?_,Heap.get?_push_size _ rfl⟩,rfl,h _ hp⟩;rw [← e];exact vals_strs l
end
section
variable {X:Cx}
theorem mt_split:MtR X "str.split" (fun x xs H Q=>∃ a b,x = .str a∧xs=[.str b]∧(b.length == 0)=false∧a.length+2≤sizeLine∧rNewStrs (Txt.split a b) H Q):=by
 intro pins s σ H x xs v us Q I rx rs h;obtain ⟨a,b,rfl,rfl,hb,hz,h⟩:=h;obtain ⟨t,rfl⟩:=rx
 cases rs with
 | cons r1 rs =>
   cases rs;obtain ⟨u,rfl⟩:=r1;have hl:(Txt.split a b).length≤sizeLine:=Nat.le_trans (PyProof.Rows.split_le a b) hz
   have hn:(Builtin.Str.partsBetween a (Builtin.Str.occurrences a b 0 a.length (a.length+1)) b.length).length≤sizeLine:=by
     have e1:=StrLaws.occ_length_le a b 0 a.length (a.length+1);rw [length_partsBetween]; omega
   cases h1:(decide (a.length < b.length) || decide (Builtin.Str.strKind a < Builtin.Str.strKind b))
   · cases hf:(Builtin.Str.occurrences a b 0 a.length (a.length+1)).isEmpty
     · refine call_meets F.slot_str_split (typeIs_str _ _ _) F.entry_str_split (F.args_str_split_2 _ _) (meets_str_split_sep a b t u h1 hb hf (by omega) hn) ?_;show EP X pins σ Q (.ref s.heap.objs.size) { s with toks:=_,heap:=s.heap.push { cls:=.type "list",data:=.seq (strsFrom s.toks (Builtin.Str.partsBetween a (Builtin.Str.occurrences a b 0 a.length (a.length+1)) b.length)).toArray } };rw [strsFrom_eq];exact laid_strs (ys:=Txt.split a b) I ((numbered_texts _ _).trans ((if_neg (ne_true_of_eq_false h1)).trans (if_neg (ne_true_of_eq_false hf))).symm) hl h
     · refine call_meets F.slot_str_split (typeIs_str _ _ _) F.entry_str_split (F.args_str_split_2 _ _) (meets_str_split_not_found a b t u h1 hb hf) ?_;exact laid_strs (l:=[(a,t)]) (ys:=Txt.split a b) (k:=s.toks) I ((if_neg (ne_true_of_eq_false h1)).trans (if_pos hf)).symm hl h
   · refine call_meets F.slot_str_split (typeIs_str _ _ _) F.entry_str_split (F.args_str_split_2 _ _) (meets_str_split_cannot_occur a b t u h1) ?_;exact laid_strs (l:=[(a,t)]) (ys:=Txt.split a b) (k:=s.toks) I (if_pos h1).symm hl h
theorem mt_join:MtR X "str.join" (fun x xs H Q=>∃ a p,∃ ys:List Str,x = .str a∧xs=[.ref p]∧(SqL X.K H p (ys.map V.str)∨SqT X.K H p (ys.map V.str)) ∧
   (ys.map (·.length)).sum+ys.length*a.length≤16777216∧Q (.str (Txt.join a ys)) H):=by
 intro pins s σ H x xs v us Q I rx rs h;obtain ⟨a,p,ys,rfl,rfl,hp,hz,h⟩:=h;obtain ⟨t,rfl⟩:=rx
 cases rs with
 | cons r1 rs =>
   cases rs;cases r1;rcases hp with hp | hp
   · obtain ⟨its,r,⟨o,n,ho,hc,_,hd⟩,_⟩:=I.list hp;exact PyProof.Rows.join_list (items:=its.toArray) ⟨o,ho,hc,n,hd⟩ (by rw [List.toList_toArray]; exact strs_of_vals r) hz fun t' k=>⟨.str _,H,I.tok k,⟨t',rfl⟩,h⟩
   · obtain ⟨its,r,ht,_⟩:=I.tuple hp;exact PyProof.Rows.join_tuple (items:=its.toArray) ht (by rw [List.toList_toArray]; exact strs_of_vals r) hz fun t' k=>⟨.str _,H,I.tok k,⟨t',rfl⟩,h⟩
theorem mt0 {id:String} {C:Str→Prop} {g:Str→V} (rule:∀ (a:Str) (t:Tok) (s:Shared) (Q:Value→Shared→Prop),C a→(∀ (u:Value) (k:Nat),RelV (g a) u→Q u { s with toks:=k }) →
   wpAny (model X.prog X.w) X.A (call (.builtin id) [.str a t]) Q X.xe s):MtR X id (fun x xs H Q=>∃ a,x = .str a∧xs=[]∧C a∧Q (g a) H):=by
 intro pins s σ H x xs v us Q I rx rs h;obtain ⟨a,rfl,rfl,hc,h⟩:=h;obtain ⟨t,rfl⟩:=rx;cases rs;exact rule a t s _ hc fun u k r=>⟨g a,H,I.tok k,r,h⟩
theorem mt_isdigit:MtR X "str.isdigit" (fun x xs H Q=>∃ a,x = .str a∧xs=[]∧True∧Q (.bl (Txt.isdigit a)) H) :=
 mt0 (C:=fun _=>True) (g:=fun a=>.bl (Txt.isdigit a)) fun _ _ s _ _ h=>PySem.SC.isdigit (h _ s.toks rfl)
theorem mt_isalnum:MtR X "str.isalnum" (fun x xs H Q=>∃ a,x = .str a∧xs=[]∧True∧Q (.bl (Txt.isalnum a)) H) :=
 mt0 (C:=fun _=>True) (g:=fun a=>.bl (Txt.isalnum a)) fun _ _ s _ _ h=>PySem.SC.isalnum (h _ s.toks rfl)
theorem mt1 {id:String} {g:Str→Str→V} (rule:∀ (a b:Str) (t u:Tok) (s:Shared) (Q:Value→Shared→Prop),(∀ (v:Value) (k:Nat),RelV (g a b) v→Q v { s with toks:=k }) →
   wpAny (model X.prog X.w) X.A (call (.builtin id) [.str a t,.str b u]) Q X.xe s):MtR X id (fun x xs H Q=>∃ a b,x = .str a∧xs=[.str b]∧Q (g a b) H):=by
 intro pins s σ H x xs v us Q I rx rs h;obtain ⟨a,b,rfl,rfl,h⟩:=h;obtain ⟨t,rfl⟩:=rx
 cases rs with
 | cons r1 rs =>
   cases rs;obtain ⟨u,rfl⟩:=r1;exact rule a b t u s _ fun v k r=>⟨g a b,H,I.tok k,r,h⟩
theorem mt_find:MtR X "str.find" (fun x xs H Q=>∃ a b,x = .str a∧xs=[.str b]∧Q (.int (Txt.find a b)) H) :=
 mt1 (g:=fun a b=>.int (Txt.find a b)) fun _ _ _ _ s _ h=>PySem.SC.find (h _ (s.toks+1) ⟨_,rfl⟩)
theorem call_int_str:CallR X (.type "int") (fun xs H Q=>∃ a n,xs=[.str a]∧PySem.intText? a=some n∧a.length≤640∧Q (.int n) H):=by
 intro pins s σ H xs us Q I rs h;obtain ⟨a,n,rfl,hn,hl,h⟩:=h
 cases rs with
 | cons r1 rs =>
   cases rs;obtain ⟨t,rfl⟩:=r1;exact PySem.W.KIN.call_text hn hl ⟨.int n,H,I.tok _,⟨_,rfl⟩,h⟩
end
section
variable {X:Cx} {o e:Expr} {to te:TE}
noncomputable def tM0 (r:V→List V→Hp→VK→Prop) (to:TE):TE:=fun σ H Q=>to σ H fun x H1=>(∃ a,x = .str a)∧r x [] H1 Q
noncomputable def tM1 (r:V→List V→Hp→VK→Prop) (to te:TE):TE:=fun σ H Q=>to σ H fun x H1=>(∃ a,x = .str a)∧te σ H1 fun y H2=>r x [y] H2 Q
theorem pe_m0 {id:String} {name:Str} {apos pos:Pos} {r:V→List V→Hp→VK→Prop} (slot:Slot "str" name id) (ty:typeOf (.builtin id)=pure (.type "method_descriptor")) (rule:MtR X id r) (ho:PE X o to)
   (hbase:attributeBase o name X.env (eval o X.env)=eval o X.env:=by rfl) (hline:(apos.endLine == pos.line)=true:=by rfl):PE X (.Call (.Attribute o name apos) [] [] pos) (tM0 r to):=by
 intro pins s σ H Q I h;refine PySem.Call_method0 hbase hline (thn (ho pins s σ H _ I h) fun v s1 ⟨x,H1,I1,r1,q1⟩=>?_);obtain ⟨⟨a,rfl⟩,q1⟩:=q1;obtain ⟨t,rfl⟩:=_root_.id r1;exact ⟨"str",_,F.plainAttrs_str,slot,ty,typeIs_str _ _ _,(fun _ e=>nomatch e),Calls.callWith_builtin rfl (PySem.evalArgs_none (rule pins s1 σ H1 _ [] _ [] Q I1 r1 .nil q1))⟩
theorem pe_m1 {id:String} {name:Str} {apos pos:Pos} {r:V→List V→Hp→VK→Prop} (slot:Slot "str" name id) (ty:typeOf (.builtin id)=pure (.type "method_descriptor")) (rule:MtR X id r) (ho:PE X o to) (he:PE X e te)
   (hs:starEach [e] X.env=[(false,eval e X.env)]:=by rfl) (hbase:attributeBase o name X.env (eval o X.env)=eval o X.env:=by rfl) (hline:(apos.endLine == pos.line)=true:=by rfl) :
   PE X (.Call (.Attribute o name apos) [e] [] pos) (tM1 r to te):=by
 intro pins s σ H Q I h;refine PySem.Call_method1 hbase hs hline (thn (ho pins s σ H _ I h) fun v s1 ⟨x,H1,I1,r1,q1⟩=>?_);obtain ⟨⟨a,rfl⟩,q1⟩:=q1;obtain ⟨t,rfl⟩:=_root_.id r1;refine ⟨"str",_,F.plainAttrs_str,slot,ty,typeIs_str _ _ _,(fun _ e=>nomatch e),Calls.callWith_builtin rfl (Calls.evalArgs_plain (Calls.spliced_cons ?_))⟩;exact thn (he pins s1 σ H1 _ I1 q1) fun u s2 ⟨y,H2,I2,r2,q2⟩=>Calls.spliced_nil (rule pins s2 σ H2 _ [y] _ [u] Q I2 r1 (.cons r2 .nil) q2)
theorem pe_split {apos pos:Pos} (ho:PE X o to) (he:PE X e te) (hs:starEach [e] X.env=[(false,eval e X.env)]:=by rfl) (hbase:attributeBase o "split" X.env (eval o X.env)=eval o X.env:=by rfl) (hline:(apos.endLine == pos.line)=true:=by rfl) :
   PE X (.Call (.Attribute o "split" apos) [e] [] pos) (tM1 (fun x xs H Q=>∃ a b,x = .str a∧xs=[.str b]∧(b.length == 0)=false∧a.length+2≤sizeLine∧rNewStrs (Txt.split a b) H Q) to te) :=
 pe_m1 F.slot_str_split F.type_str_split mt_split ho he hs hbase hline
theorem pe_join {apos pos:Pos} (ho:PE X o to) (he:PE X e te) (hs:starEach [e] X.env=[(false,eval e X.env)]:=by rfl) (hbase:attributeBase o "join" X.env (eval o X.env)=eval o X.env:=by rfl) (hline:(apos.endLine == pos.line)=true:=by rfl) :
   PE X (.Call (.Attribute o "join" apos) [e] [] pos) (tM1 (fun x xs H Q=>∃ a p,∃ ys:List Str,x = .str a∧xs=[.ref p]∧(SqL X.K H p (ys.map V.str)∨SqT X.K H p (ys.map V.str)) ∧
     (ys.map (·.length)).sum+ys.length*a.length≤16777216∧Q (.str (Txt.join a ys)) H) to te) :=
 pe_m1 F.slot_str_join F.type_str_join mt_join ho he hs hbase hline
end
end L2
namespace L2
open PySem PySem.Spec PyProof.Rows
section
variable {X:Cx}
end
end L2
namespace Att
open PySem PySem.W PySem.Calls PyProof.Rows
section
variable {prog:Program} {w:World} {A:Around} {E:Value→Shared→Prop} {s:Shared} {K:Frag}
end
end Att
namespace L2
open PySem PySem.Spec PyProof.Rows
end L2
namespace L2
open PySem PySem.Spec PyProof.Rows
end L2
namespace L2
open PySem PySem.Spec PyProof.Rows
noncomputable def inClass (s:Stmt) (j:Nat):Stmt:=match s with
 | .ClassDef _ _ _ body _ _ _ _ _ _ _=>body.getD j (.Pass ⟨0,0,0,0⟩)
 | _=>.Pass ⟨0,0,0,0⟩
noncomputable def defArgs (s:Stmt):Arguments:=match s with
 | .FunctionDef _ a _ _ _ _ _ _ _ _=>a
 | _=>{ posonlyargs:=[],args:=[],vararg:=none,kwonlyargs:=[],kw_defaults:=[],kwarg:=none,defaults:=[] }
noncomputable def defBody (s:Stmt):List Stmt:=match s with
 | .FunctionDef _ _ b _ _ _ _ _ _ _=>b
 | _=>[]
noncomputable def defScope (s:Stmt):Scope:=match s with
 | .FunctionDef _ _ _ _ _ _ sc _ _ _=>sc
 | _=>{ kind:=.function,names:=[],isGenerator:=false,isCoroutine:=false }
noncomputable abbrev CX0:CXT:=fun _ _ _ _ _ _=>False
noncomputable abbrev E0:XK:=fun _ _ _=>False
theorem pass0 {X:Cx}:Passes CX0 X E0:=fun _ _ _ _ _ _ _ h=>h.elim
structure Fun (K:PySem.W.Frag) (x qual:Str) (st:Stmt) (f:Addr) (fd:FuncData):Prop where
 ex:∃ (oc:Value) (od:Option Addr) (kV doc pm:Value) (an:Option Addr) (cdv ct:Value) (osl:Array (Option Value)),
   fd=PySem.W.fnOf x qual (defArgs st) (defBody st) (defScope st) .none kV doc pm an cdv ct∧K.lookup f=some ⟨oc,od,.func fd,osl⟩∧PySem.W.codeIn K cdv qual=true
 kp:PySem.W.keepIn K (.ref f)=true
section
variable {P:Program} {w:World} {K:PySem.W.Frag} {mg:Str→Option Value} {base:Heap}
theorem Fun.ok {x qual:Str} {st:Stmt} {f:Addr} {fd:FuncData} {N ps:List Str} {k:Nat} {sp:Sp} (F:Fun K x qual st f fd) (S:FnScope N ps (defScope st)) (len:∀ vs H Q E,sp vs H Q E→vs.length=ps.length)
   (hbody:∀ (cdv:Value) (A:Around) (outer:List Env) (s:Shared) (H:Hp) (vs:List V) (Q:VK) (E:XK),Room k (A.deeper (envOfC qual (defScope st) s.heap.objs.size f cdv))→sp vs H Q E →
     ∃ t,PSs (cxOf CX0 P w K mg base N qual (defScope st) f cdv A outer s H E).nox (defBody st) t∧t { nx:=fun _ H'=>Q .non H',rt:=Q } (start N vs) H):FnOk P w K mg base CX0 (k+1) f fd ps sp:=by
 obtain ⟨oc,od,kV,doc,pm,an,cdv,ct,osl,rfl,lk,hcd⟩:=F.ex;refine fn_of lk hcd S len fun A outer s H vs Q E hr hsp=>?_;obtain ⟨t,h,q⟩:=hbody cdv A outer s H vs Q E hr hsp;exact ⟨t,h.nox,q⟩
theorem Fun.binds {x qual:Str} {st:Stmt} {f:Addr} {fd:FuncData} {ps:List Str} (F:Fun K x qual st f fd)
   (h:∀ (kV doc pm:Value) (an:Option Addr) (cdv ct:Value) (us:List Value),us.length=ps.length→bindArgs (PySem.W.fnOf x qual (defArgs st) (defBody st) (defScope st) .none kV doc pm an cdv ct) ⟨us,[]⟩=pure (ps.zip us)):Binds K fd ps []:=by
 obtain ⟨oc,od,kV,doc,pm,an,cdv,ct,osl,rfl,lk,hcd⟩:=F.ex;exact .all (h kV doc pm an cdv ct)
theorem fun_mk {x qual:Str} {st:Stmt} {f:Addr} {oc:Value} {od an:Option Addr} {osl:Array (Option Value)} {kV doc pm cdv ct:Value} (l:K.lookup f=some ⟨oc,od,.func (PySem.W.fnOf x qual (defArgs st) (defBody st) (defScope st) .none kV doc pm an cdv ct),osl⟩)
   (c:PySem.W.codeIn K cdv qual=true) (k:PySem.W.keepIn K (.ref f)=true):Fun K x qual st f (PySem.W.fnOf x qual (defArgs st) (defBody st) (defScope st) .none kV doc pm an cdv ct):=⟨⟨oc,od,kV,doc,pm,an,cdv,ct,osl,rfl,l,c⟩,k⟩
end
theorem hu_of {A:Around} {k:Nat} (hr:Room k A):A.units+1 < cLine:=Nat.lt_of_le_of_lt (Nat.add_le_add_left (by decide:1≤64) _) hr.units
section
variable {X:Cx}
theorem pv (i:Nat) {x:Str} {pos:Pos} (hN:X.N[i]? = some x:=by rfl) (hv:Vis X.env.scope x:=by first | exact Or.inl rfl | exact Or.inr (Or.inl rfl) | exact Or.inr (Or.inr rfl)) (hd:(x == ("__debug__" : Str))=false:=by decide)
   (hcd:(x == ("__classdict__" : Str))=false:=by decide):PE X (.Name x pos) (tVar i):=pe_var hN hv hd hcd
theorem call_lenD:CallR X (.builtin "len") (fun xs H Q=>∃ a kvs,xs=[V.ref a]∧H a=some (.dK kvs)∧Q (.int kvs.length) H):=by
 intro pins s σ H xs us Q I r h;obtain ⟨a,kvs,rfl,ha,q⟩:=h;obtain ⟨u,rfl,ru⟩:=vals1 r;cases ru;exact d_len I (.inl ha) fun t s' I'=>⟨.int kvs.length,H,I',⟨t,rfl⟩,q⟩
end
theorem iteF {A B:Prop} (h:B):if false=true then A else B:=by
 rw [if_neg Bool.false_ne_true];exact h
theorem iteT {A B:Prop} (h:A):if true=true then A else B:=by
 rw [if_pos rfl];exact h
noncomputable def Same (H H':Hp):Prop:=∀ b o,H b=some o→H' b=some o
theorem Same.refl (H:Hp):Same H H:=fun _ _ h=>h
theorem Same.trans {H H1 H2:Hp} (a:Same H H1) (b:Same H1 H2):Same H H2:=fun c o h=>b c o (a c o h)
theorem Same.free {H H':Hp} (e:Same H H') {l:Addr} (h:H' l=Option.none):H l=Option.none:=by
 cases q:H l with
 | none=>rfl
 | some o =>
   rw [e l o q] at h;cases h
theorem Same.seq {K:PySem.W.Frag} {H H':Hp} {a:Addr} {xs:List V} (e:Same H H') (h:SqL K H a xs):SqL K H' a xs:=by
 rcases h with (h | ⟨o,h⟩) | h
 · exact .inl (.inl (e _ _ h))
 · exact .inl (.inr ⟨o,e _ _ h⟩)
 · exact .inr h
section
variable {κ:Type} [DecidableEq κ]
end
theorem Same.made {H H1:Hp} {x dx C:Addr} (nx:H x=Option.none) (nd:H dx=Option.none) (k:∀ b o,(upd (upd H dx (.own x)) x (.ins C dx [])) b=some o→b≠x→H1 b=some o):Same H H1:=fun b o e =>
 k b o (by rw [upd_ne (ne_of_none e nx),upd_ne (ne_of_none e nd)]; exact e) (ne_of_none e nx)
end L2
section
set_option Elab.async false
set_option linter.all false
set_option maxRecDepth 100000
set_option maxHeartbeats 2000000
namespace L2
open PySem PySem.Spec PyProof.Rows
open PySem.W (WData Codec OpenSpec Well WellAll ReadsW ReadsAllW)
mutual
inductive Dw (K:PySem.W.Frag) (H:Hp):V→WData→Prop
 | non:Dw K H .non .none
 | bl (b:Bool):Dw K H (.bl b) (.bool b)
 | int (i:Int):Dw K H (.int i) (.int i)
 | str (x:Str):Dw K H (.str x) (.str x)
 | byt (b:Array UInt8):Dw K H (.byt b) (.bytes b.toList)
 | lst {a:Addr} {xs:List V} {ds:List WData}:SqL K H a xs→DwAll K H xs ds→Dw K H (.ref a) (.list ds)
 | tup {a:Addr} {xs:List V} {ds:List WData}:SqT K H a xs→DwAll K H xs ds→Dw K H (.ref a) (.tuple ds)
inductive DwAll (K:PySem.W.Frag) (H:Hp):List V→List WData→Prop
 | nil:DwAll K H [] []
 | cons {v:V} {vs:List V} {d:WData} {ds:List WData}:Dw K H v d→DwAll K H vs ds→DwAll K H (v :: vs) (d :: ds)
end
theorem dw_ints {K:PySem.W.Frag} {H:Hp}:∀ ns:List Int,DwAll K H (ns.map V.int) (ns.map WData.int)
 | []=>.nil
 | n :: r=>.cons (.int n) (dw_ints r)
theorem ints_dw {K:PySem.W.Frag} {H:Hp}:∀ (ns:List Int) (xs:List V),DwAll K H xs (ns.map WData.int)→xs=ns.map V.int
 | [],xs,h=>by
   cases h
   rfl
 | n :: r,xs,h=>by
   cases h with
   | cons h1 h2 =>
     cases h1;rw [ints_dw r _ h2] <;> rfl
section
variable {P:Program} {w:World} {K:PySem.W.Frag} {H:Hp} {h:Heap} {R:PySem.W.WRecords} {cl:Str→Option Addr}
theorem sqL_at {a:Addr} {xs:List V} (hok:HOk P w H h) (KX:K.In h) (q:SqL K H a xs):∃ (its:List Value) (o:Obj) (n:Nat),Vals xs its∧h.get? a=some o∧o.cls = .type "list" ∧ o.data = .seq its.toArray n:=by
 rcases q with q | ⟨o,its,n,e,hc,_,hd,_,hv⟩
 · obtain ⟨_,its,n,hv,e⟩:=(show ObjOk P w H h a (.lst xs) from q.ok hok);exact ⟨its,_,n,hv,e,rfl,rfl⟩
 · exact ⟨its.toList,o,n,hv,KX _ _ e,hc,by simp [hd]⟩
theorem sqT_at {a:Addr} {xs:List V} (hok:HOk P w H h) (KX:K.In h) (q:SqT K H a xs):∃ (its:List Value) (o:Obj) (n:Nat),Vals xs its∧h.get? a=some o∧o.cls = .type "tuple" ∧ o.data = .seq its.toArray n:=by
 rcases q with q | ⟨o,its,n,e,hc,hd,_,hv⟩
 · obtain ⟨_,its,hv,o,e,hc,n,hd⟩:=(show ObjOk P w H h a (.tup xs) from q.ok hok);exact ⟨its,o,n,hv,e,hc,hd⟩
 · exact ⟨its.toList,o,n,hv,KX _ _ e,hc,by simp [hd]⟩
mutual
theorem Dw.reads (hok:HOk P w H h) (KX:K.In h):∀ (d:WData) (v:V) (u:Value),Dw K H v d→RelV v u→∃ as,ReadsW R cl h u d as
 | .none,_,_,x,r=>by
   cases x;cases r
   exact ⟨_,ReadsW.none⟩
 | .bool b,_,_,x,r=>by
   cases x;cases r
   exact ⟨_,ReadsW.bool b⟩
 | .int i,_,_,x,r=>by
   cases x;obtain ⟨t,rfl⟩:=r
   exact ⟨_,ReadsW.int i t⟩
 | .str s,_,_,x,r=>by
   cases x;obtain ⟨t,rfl⟩:=r
   exact ⟨_,ReadsW.str s t⟩
 | .bytes b,_,_,x,r=>by
   cases x;obtain ⟨t,rfl⟩:=r
   exact ⟨_,ReadsW.bytes _ t⟩
 | .list ds,_,_,x,r=>by
   cases x with
   | lst hs ha =>
     cases r;obtain ⟨its,o,n,rv,ho,hc,hd⟩:=sqL_at hok KX hs;obtain ⟨as,hr⟩:=Dw.readsAll hok KX ds _ its ha rv
     exact ⟨_,ReadsW.list ho hc hd hr⟩
 | .tuple ds,_,_,x,r=>by
   cases x with
   | tup hs ha =>
     cases r;obtain ⟨its,o,n,rv,ho,hc,hd⟩:=sqT_at hok KX hs;obtain ⟨as,hr⟩:=Dw.readsAll hok KX ds _ its ha rv
     exact ⟨_,ReadsW.tuple ho hc hd hr⟩
 | .float _,_,_,x,_=>by cases x
 | .dict _,_,_,x,_=>by cases x
 | .bytearray _,_,_,x,_=>by cases x
 | .set _,_,_,x,_=>by cases x
 | .frozenset _,_,_,x,_=>by cases x
 | .obj _ _,_,_,x,_=>by cases x
theorem Dw.readsAll (hok:HOk P w H h) (KX:K.In h):∀ (ds:List WData) (vs:List V) (us:List Value),DwAll K H vs ds→Vals vs us→∃ as,ReadsAllW R cl h us ds as
 | [],_,_,x,r=>by
   cases x;cases r
   exact ⟨_,ReadsAllW.nil⟩
 | d :: ds,_,_,x,r=>by
   cases x with
   | cons h1 h2 =>
     cases r with
     | cons r1 r2 =>
       obtain ⟨as,q1⟩:=Dw.reads hok KX d _ _ h1 r1;obtain ⟨bs,q2⟩:=Dw.readsAll hok KX ds _ _ h2 r2;exact ⟨_,ReadsAllW.cons q1 q2⟩
end
end
mutual
noncomputable def plW:WData→Bool
 | .none=>true
 | .bool _=>true
 | .int _=>true
 | .str _=>true
 | .bytes _=>true
 | .list xs=>plWs xs
 | .tuple xs=>plWs xs
 | _=>false
noncomputable def plWs:List WData→Bool
 | []=>true
 | x :: r=>plW x && plWs r
end
theorem plWs_map {α:Type} {f:α→WData} (h:∀ a,plW (f a)=true):∀ l:List α,plWs (l.map f)=true
 | []=>rfl
 | x :: r=>by
   show (plW (f x) && plWs (r.map f))=true;rw [h x,plWs_map h r] <;> rfl
theorem pl_enc:∀ (c:Codec) (a:c.denote),plW (c.enc a)=true
 | .unit,_=>rfl
 | .bool,_=>rfl
 | .int _ _,_=>rfl
 | .nat _ _,_=>rfl
 | .u8,_=>rfl
 | .bytes _ _,_=>rfl
 | .text _ _ _ _,_=>rfl
 | .list _ _ c,a=>plWs_map (fun x=>pl_enc c x) a
 | .pair c d,a=>by
   show (plW (c.enc a.1) && (plW (d.enc a.2) && true))=true
   rw [pl_enc c a.1,pl_enc d a.2] <;> rfl
 | .triple c d e,a=>by
   show (plW (c.enc a.1) && (plW (d.enc a.2.1) && (plW (e.enc a.2.2) && true)))=true
   rw [pl_enc c a.1,pl_enc d a.2.1,pl_enc e a.2.2] <;> rfl
 | .option c,none=>rfl
 | .option c,some x=>pl_enc c x
theorem pl_encAll:∀ (cs:List Codec) (a:Codec.denoteAll cs),plWs (Codec.encAll cs a)=true
 | [],_=>rfl
 | c :: cs,a=>by
   show (plW (c.enc a.1) && plWs (Codec.encAll cs a.2))=true;rw [pl_enc c a.1,pl_encAll cs a.2] <;> rfl
theorem weight_mem:∀ {xs:List WData} {d:WData},d∈xs→d.weight≤WData.weightAll xs
 | [],d,h=>absurd h (by simp)
 | x :: r,d,h=>by
   show d.weight≤x.weight+1+WData.weightAll r;rcases List.mem_cons.mp h with e | m
   · rw [e];omega
   · have z:=weight_mem m;omega
noncomputable def toV:Value→V
 | .none=>.non
 | .bool b=>.bl b
 | .int i _=>.int i
 | .str x _=>.str x
 | .bytes b _=>.byt b
 | .ref a=>.ref a
 | _=>.non
noncomputable def OkU (A:List Addr):Value→Prop
 | .none=>True
 | .bool _=>True
 | .int _ _=>True
 | .str _ _=>True
 | .bytes _ _=>True
 | .ref a=>a∈A
 | _=>False
theorem OkU.mono {A B:List Addr} (h:∀ a∈A,a∈B):∀ {u:Value},OkU A u→OkU B u:=fun {u} x=>by
 cases u with
 | ref a=>exact h a x
 | none=>trivial
 | bool b=>trivial
 | int i t=>trivial
 | str s t=>trivial
 | bytes b t=>trivial
 | _=>exact False.elim x
theorem relV_toV {A:List Addr} {u:Value} (x:OkU A u):RelV (toV u) u:=by
 cases u with
 | ref a=>rfl
 | none=>rfl
 | bool b=>rfl
 | int i t=>exact ⟨t,rfl⟩
 | str s t=>exact ⟨t,rfl⟩
 | bytes b t=>exact ⟨t,rfl⟩
 | _=>exact False.elim x
theorem vals_toV {A:List Addr}:∀ {vs:List Value},(∀ u∈vs,OkU A u)→Vals (vs.map toV) vs
 | [],_=>.nil
 | u :: r,h=>.cons (relV_toV (h u (List.mem_cons_self ..))) (vals_toV fun x hx=>h x (List.mem_cons_of_mem _ hx))
noncomputable def ArgOb (h:Heap) (A:List Addr) (a:Addr):Prop:=∃ vs:List Value,vs.length≤sizeLine∧(∀ u∈vs,OkU A u) ∧
 (h.get? a=some { cls:=.type "list",data:=.seq vs.toArray }∨h.get? a=some { cls:=.type "tuple",data:=.seq vs.toArray })
theorem ArgOb.mono {h:Heap} {A B:List Addr} {a:Addr} (k:∀ a∈A,a∈B) (x:ArgOb h A a):ArgOb h B a:=by
 obtain ⟨vs,h1,h2,h3⟩:=x;exact ⟨vs,h1,fun u hu=>(h2 u hu).mono k,h3⟩
theorem wellAll_len {P:Params} {h:Heap}:∀ {vs:List Value} {ds:List WData},WellAll P h vs ds→vs.length=ds.length
 | _,_,.nil=>rfl
 | _,_,.cons _ b=>by
   show _+1=_+1;rw [wellAll_len b]
theorem well_list {P:Params} {h:Heap} {v:Value} {ds:List WData} (x:Well P h v (.list ds)):∃ (a:Addr) (vs:List Value),v = .ref a∧h.get? a=some { cls:=.type "list",data:=.seq vs.toArray }∧WellAll P h vs ds:=by
 cases x with
 | list ho hall=>exact ⟨_,_,rfl,ho,hall⟩
theorem well_tuple {P:Params} {h:Heap} {v:Value} {ds:List WData} (x:Well P h v (.tuple ds)):∃ (a:Addr) (vs:List Value),v = .ref a∧h.get? a=some { cls:=.type "tuple",data:=.seq vs.toArray }∧WellAll P h vs ds:=by
 cases x with
 | tuple ho hall=>exact ⟨_,_,rfl,ho,hall⟩
theorem well_cons {P:Params} {h:Heap} {us:List Value} {d:WData} {ds:List WData} (x:WellAll P h us (d :: ds)):∃ (v:Value) (vs:List Value),us=v :: vs∧Well P h v d∧WellAll P h vs ds:=by
 cases x with
 | cons a b=>exact ⟨_,_,rfl,a,b⟩
theorem line_of {n:Nat} (h:n≤1048576):n≤sizeLine:=Nat.le_trans h (by decide)
section
variable {P:Params} {h:Heap}
mutual
theorem area_one:∀ (d:WData) (v:Value),Well P h v d→plW d=true→d.weight≤1048576→∃ A:List Addr,OkU A v∧∀ a∈A,ArgOb h A a
 | .none,_,x,_,_=>by
   cases x
   exact ⟨[],trivial,fun a m=>absurd m (by simp)⟩
 | .bool b,_,x,_,_=>by
   cases x
   exact ⟨[],trivial,fun a m=>absurd m (by simp)⟩
 | .int i,_,x,_,_=>by
   cases x
   exact ⟨[],trivial,fun a m=>absurd m (by simp)⟩
 | .str s,_,x,_,_=>by
   cases x
   exact ⟨[],trivial,fun a m=>absurd m (by simp)⟩
 | .bytes b,_,x,_,_=>by
   cases x
   exact ⟨[],trivial,fun a m=>absurd m (by simp)⟩
 | .list ds,_,x,p,z=>by
   obtain ⟨a,vs,rfl,ho,hall⟩:=well_list x;have z2:WData.weightAll ds≤1048576:=z;obtain ⟨A,h1,h2⟩:=area_all ds _ hall p fun d hd=>Nat.le_trans (weight_mem hd) z2;have k:∀ b∈A,b∈a :: A:=fun b hb=>List.mem_cons_of_mem _ hb;refine ⟨a :: A,List.mem_cons_self ..,fun b hb=>?_⟩;rcases List.mem_cons.mp hb with e | m
   · rw [e];exact ⟨vs,line_of (by rw [wellAll_len hall]; exact Nat.le_trans (PySem.W.length_le_weightAllW ds) z2),fun u hu=>(h1 u hu).mono k,.inl ho⟩
   · exact (h2 b m).mono k
 | .tuple ds,_,x,p,z=>by
   obtain ⟨a,vs,rfl,ho,hall⟩:=well_tuple x;have z2:WData.weightAll ds≤1048576:=z;obtain ⟨A,h1,h2⟩:=area_all ds _ hall p fun d hd=>Nat.le_trans (weight_mem hd) z2;have k:∀ b∈A,b∈a :: A:=fun b hb=>List.mem_cons_of_mem _ hb;refine ⟨a :: A,List.mem_cons_self ..,fun b hb=>?_⟩;rcases List.mem_cons.mp hb with e | m
   · rw [e];exact ⟨vs,line_of (by rw [wellAll_len hall]; exact Nat.le_trans (PySem.W.length_le_weightAllW ds) z2),fun u hu=>(h1 u hu).mono k,.inr ho⟩
   · exact (h2 b m).mono k
 | .float _,_,_,p,_=>Bool.noConfusion (show false=true from p)
 | .dict _,_,_,p,_=>Bool.noConfusion (show false=true from p)
 | .bytearray _,_,_,p,_=>Bool.noConfusion (show false=true from p)
 | .set _,_,_,p,_=>Bool.noConfusion (show false=true from p)
 | .frozenset _,_,_,p,_=>Bool.noConfusion (show false=true from p)
 | .obj _ _,_,_,p,_=>Bool.noConfusion (show false=true from p)
theorem area_all:∀ (ds:List WData) (vs:List Value),WellAll P h vs ds→plWs ds=true→(∀ d∈ds,d.weight≤1048576)→∃ A:List Addr,(∀ u∈vs,OkU A u)∧∀ a∈A,ArgOb h A a
 | [],_,x,_,_=>by
   cases x
   exact ⟨[],fun u m=>absurd m (by simp),fun a m=>absurd m (by simp)⟩
 | d :: ds,_,x,p,z=>by
   obtain ⟨v,vs,rfl,x1,x2⟩:=well_cons x;have q:plW d=true∧plWs ds=true:=Bool.and_eq_true_iff.mp p;obtain ⟨A,a1,a2⟩:=area_one d v x1 q.1 (z d (List.mem_cons_self ..));obtain ⟨B,b1,b2⟩:=area_all ds vs x2 q.2 fun e he=>z e (List.mem_cons_of_mem _ he);have kA:∀ b∈A,b∈A++B:=fun b hb=>List.mem_append.mpr (.inl hb);have kB:∀ b∈B,b∈A++B:=fun b hb=>List.mem_append.mpr (.inr hb);refine ⟨A++B,fun u hu=>?_,fun b hb=>?_⟩
   · rcases List.mem_cons.mp hu with e | m
     · rw [e];exact a1.mono kA
     · exact (b1 u m).mono kB
   · rcases List.mem_append.mp hb with m | m
     · exact (a2 b m).mono kA
     · exact (b2 b m).mono kB
end
end
noncomputable def hoOf (o:Obj):Option HO:=match o.data with
 | .seq vs _=>if (o.cls == Value.type "list")=true then some (.frz o (.lst (vs.toList.map toV))) else some (.frz o (.tup (vs.toList.map toV)))
 | _=>none
noncomputable def argH (K:PySem.W.Frag) (h:Heap) (A:List Addr):Hp:=fun b=>if b∈A then (if (K.lookup b).isNone=true then (h.get? b).bind hoOf else none) else none
noncomputable def OnlyF (H:Hp):Prop:=∀ b,H b=none∨∃ o u,H b=some (.frz o u)
theorem hoOf_lst (vs:List Value):hoOf { cls:=.type "list",data:=.seq vs.toArray }=some (.frz { cls:=.type "list",data:=.seq vs.toArray } (.lst (vs.map toV))):=by
 show (if (Value.type "list" == Value.type "list")=true then some (HO.frz { cls:=.type "list",data:=.seq vs.toArray } (.lst (vs.toArray.toList.map toV))) else some (HO.frz { cls:=.type "list",data:=.seq vs.toArray } (.tup (vs.toArray.toList.map toV))))=_;rw [if_pos (beq_self_eq_true _)]
theorem hoOf_tup (vs:List Value):hoOf { cls:=.type "tuple",data:=.seq vs.toArray }=some (.frz { cls:=.type "tuple",data:=.seq vs.toArray } (.tup (vs.map toV))):=by
 show (if (Value.type "tuple" == Value.type "list")=true then some (HO.frz { cls:=.type "tuple",data:=.seq vs.toArray } (.lst (vs.toArray.toList.map toV))) else some (HO.frz { cls:=.type "tuple",data:=.seq vs.toArray } (.tup (vs.toArray.toList.map toV))))=_;rw [if_neg (by decide)]
section
variable {P:Program} {w:World} {K:PySem.W.Frag} {h:Heap} {A:List Addr}
theorem argH_at {b:Addr} {o:Obj} (hb:b∈A) (hk:K.lookup b=none) (e:h.get? b=some o):argH K h A b=hoOf o:=by
 unfold argH;rw [if_pos hb,hk,if_pos (show (none:Option Obj).isNone=true from rfl),e] <;> rfl
theorem of_argH {b:Addr} {u:HO} (q:argH K h A b=some u):b∈A∧K.lookup b=none:=by
 unfold argH at q;by_cases hb:b∈A
 · rw [if_pos hb] at q
   cases hk:K.lookup b with
   | none=>exact ⟨hb,rfl⟩
   | some o =>
     rw [hk,if_neg (by simp)] at q;cases q
 · rw [if_neg hb] at q;cases q
theorem argH_is (ar:∀ a∈A,ArgOb h A a) {b:Addr} {u:HO} (q:argH K h A b=some u):K.lookup b=none∧∃ vs:List Value,vs.length≤sizeLine∧(∀ u∈vs,OkU A u) ∧
   ((h.get? b=some { cls:=.type "list",data:=.seq vs.toArray }∧u = .frz { cls:=.type "list",data:=.seq vs.toArray } (.lst (vs.map toV))) ∨
    (h.get? b=some { cls:=.type "tuple",data:=.seq vs.toArray }∧u = .frz { cls:=.type "tuple",data:=.seq vs.toArray } (.tup (vs.map toV)))):=by
 obtain ⟨hb,hk⟩:=of_argH q;obtain ⟨vs,h1,h2,h3⟩:=ar b hb;refine ⟨hk,vs,h1,h2,?_⟩;rcases h3 with e | e
 · rw [argH_at hb hk e,hoOf_lst] at q;exact .inl ⟨e,(Option.some.inj q).symm⟩
 · rw [argH_at hb hk e,hoOf_tup] at q;exact .inr ⟨e,(Option.some.inj q).symm⟩
theorem argH_only (ar:∀ a∈A,ArgOb h A a):OnlyF (argH K h A):=fun b=>by
 cases q:argH K h A b with
 | none=>exact .inl rfl
 | some u =>
   obtain ⟨_,vs,_,_,⟨_,e⟩ | ⟨_,e⟩⟩:=argH_is ar q
   · exact .inr ⟨_,_,by rw [e]⟩
   · exact .inr ⟨_,_,by rw [e]⟩
theorem argH_ok (ar:∀ a∈A,ArgOb h A a):HOk P w (argH K h A) h:=fun b u q=>by
 obtain ⟨_,vs,h1,h2,⟨e,rfl⟩ | ⟨e,rfl⟩⟩:=argH_is ar q
 · exact ⟨e,by rw [List.length_map]; exact h1,vs,_,vals_toV h2,e⟩
 · exact ⟨e,by rw [List.length_map]; exact h1,vs,vals_toV h2,_,e,rfl,_,rfl⟩
theorem seq_inj {c c':Value} {vs us:List Value} (e:(some { cls:=c,data:=.seq vs.toArray }:Option Obj)=some { cls:=c',data:=.seq us.toArray }):c=c'∧vs=us:=by
 have e1:=Option.some.inj e;have e2:c=c':=congrArg Obj.cls e1;have e3:Data.seq vs.toArray=Data.seq us.toArray:=congrArg Obj.data e1;injection e3 with e4;refine ⟨e2,?_⟩;have e5:=congrArg Array.toList e4
 simpa using e5
theorem argL (KX:K.In h) (ar:∀ a∈A,ArgOb h A a) {a:Addr} {vs:List Value} (ha:a∈A) (e:h.get? a=some { cls:=.type "list",data:=.seq vs.toArray }):(∀ u∈vs,OkU A u)∧SqL K (argH K h A) a (vs.map toV):=by
 obtain ⟨us,h1,h2,h3⟩:=ar a ha
 have hu:us=vs:=by
   rcases h3 with q | q
   · rw [e] at q;exact (seq_inj q).2.symm
   · rw [e] at q;exact absurd (Value.type.inj (seq_inj q).1) (by decide)
 subst hu;refine ⟨h2,?_⟩
 cases hk:K.lookup a with
 | none=>exact .inl (.inr ⟨_,by rw [argH_at ha hk e,hoOf_lst]⟩)
 | some o =>
   have e2:=KX a o hk;rw [e] at e2;obtain rfl:=Option.some.inj e2;exact .inr ⟨_,us.toArray,_,hk,rfl,rfl,rfl,by rw [List.size_toArray]; exact h1,by simpa using vals_toV h2⟩
theorem argT (KX:K.In h) (ar:∀ a∈A,ArgOb h A a) {a:Addr} {vs:List Value} (ha:a∈A) (e:h.get? a=some { cls:=.type "tuple",data:=.seq vs.toArray }):(∀ u∈vs,OkU A u)∧SqT K (argH K h A) a (vs.map toV):=by
 obtain ⟨us,h1,h2,h3⟩:=ar a ha
 have hu:us=vs:=by
   rcases h3 with q | q
   · rw [e] at q;exact absurd (Value.type.inj (seq_inj q).1) (by decide)
   · rw [e] at q;exact (seq_inj q).2.symm
 subst hu;refine ⟨h2,?_⟩
 cases hk:K.lookup a with
 | none=>exact .inl (.inr ⟨_,by rw [argH_at ha hk e,hoOf_tup]⟩)
 | some o =>
   have e2:=KX a o hk;rw [e] at e2;obtain rfl:=Option.some.inj e2;exact .inr ⟨_,us.toArray,_,hk,rfl,rfl,by rw [List.size_toArray]; exact h1,by simpa using vals_toV h2⟩
mutual
theorem dw_one {Pm:Params} (KX:K.In h) (ar:∀ a∈A,ArgOb h A a):∀ (d:WData) (v:Value),Well Pm h v d→plW d=true→OkU A v→Dw K (argH K h A) (toV v) d
 | .none,_,x,_,_=>by
   cases x
   exact .non
 | .bool b,_,x,_,_=>by
   cases x
   exact .bl b
 | .int i,_,x,_,_=>by
   cases x
   exact .int i
 | .str s,_,x,_,_=>by
   cases x
   exact .str s
 | .bytes b,_,x,_,_=>by
   cases x;have z:=Dw.byt (K:=K) (H:=argH K h A) b.toArray
   exact z
 | .list ds,_,x,p,hu=>by
   obtain ⟨a,vs,rfl,ho,hall⟩:=well_list x;obtain ⟨h2,hs⟩:=argL KX ar hu ho
   exact .lst hs (dw_all KX ar ds _ hall p h2)
 | .tuple ds,_,x,p,hu=>by
   obtain ⟨a,vs,rfl,ho,hall⟩:=well_tuple x;obtain ⟨h2,hs⟩:=argT KX ar hu ho
   exact .tup hs (dw_all KX ar ds _ hall p h2)
 | .float _,_,_,p,_=>Bool.noConfusion (show false=true from p)
 | .dict _,_,_,p,_=>Bool.noConfusion (show false=true from p)
 | .bytearray _,_,_,p,_=>Bool.noConfusion (show false=true from p)
 | .set _,_,_,p,_=>Bool.noConfusion (show false=true from p)
 | .frozenset _,_,_,p,_=>Bool.noConfusion (show false=true from p)
 | .obj _ _,_,_,p,_=>Bool.noConfusion (show false=true from p)
theorem dw_all {Pm:Params} (KX:K.In h) (ar:∀ a∈A,ArgOb h A a):∀ (ds:List WData) (vs:List Value),WellAll Pm h vs ds→plWs ds=true→(∀ u∈vs,OkU A u)→DwAll K (argH K h A) (vs.map toV) ds
 | [],_,x,_,_=>by
   cases x
   exact .nil
 | d :: ds,_,x,p,hu=>by
   obtain ⟨v,vs,rfl,x1,x2⟩:=well_cons x;have q:plW d=true∧plWs ds=true:=Bool.and_eq_true_iff.mp p;exact .cons (dw_one KX ar d v x1 q.1 (hu _ (List.mem_cons_self ..))) (dw_all KX ar ds vs x2 q.2 fun u m=>hu u (List.mem_cons_of_mem _ m))
end
end
theorem spec_call {P:Program} {w:World} {K:PySem.W.Frag} {mg mb:Str→Option Value} {CX:CXT} {k:Nat} {fa:Addr} {fd:FuncData} {ps:List Str} {sp:Sp} {s₁:Shared} {vals:List Value} {ds:List WData} {R:PySem.W.WRecords} {cl:Str→Option Addr} {d0:WData}
   (KX:K.In s₁.heap) (hns:s₁.heap.Ns mainGlobals mg) (hb:s₁.heap.Ns builtinsNs mb) (hbb:∀ x:Str,x ≠ "__name__" → mb x=bootBuiltins x) (hlim:s₁.heap.NoLimit) (hg:s₁.gens = #[])
   (hwl:WellAll w.params s₁.heap vals ds) (hpl:plWs ds=true) (hwt:∀ d∈ds,d.weight≤1048576) (hr:Room k callerA)
   (F:∀ base:Heap,K.In base→base.Ns mainGlobals mg→FnOk P w K mg base CX k fa fd ps sp) (hbind:∀ (s:Shared) (us:List Value),us.length=ps.length→BindsTo s fd ⟨us,[]⟩ (ps.zip us)) (hlen:ds.length=ps.length)
   (hsp:∀ (H:Hp) (xs:List V),OnlyF H→DwAll K H xs ds→sp xs H (fun v H'=>Dw K H' v d0) fun _ _ _=>False)
   (hCX:∀ H e s',CX [] H s₁ (fun _ _ _=>False) e s'→False) :
   codeAny (model P w) callerA (.call (.ref fa) ⟨vals,[]⟩) (fun r s'=>∃ u as,r = .ok (.ret u)∧ReadsW R cl s'.heap u d0 as∧OldK s₁.heap s'.heap∧s'.os=s₁.os∧AllBare s'.gens) s₁:=by
 obtain ⟨A,ho,ar⟩:=area_all ds vals hwl hpl hwt;have hO:OnlyF (argH K s₁.heap A):=argH_only ar;have hok:HOk P w (argH K s₁.heap A) s₁.heap:=argH_ok ar;have hS:=dw_all KX ar ds vals hwl hpl ho;have hV:=vals_toV ho;have hK:∀ b u,argH K s₁.heap A b=some u→K.lookup b=none:=fun b u q=>(argH_is ar q).1
 have noA:∀ {b:Addr} {o:Obj} {es:Array DictEntry} {ep:Nat},s₁.heap.get? b=some o→o.data = .dict es ep→argH K s₁.heap A b=none:=fun {b o es ep} e d=>by
   cases q:argH K s₁.heap A b with
   | none=>rfl
   | some u =>
     obtain ⟨_,vs,_,_,⟨e2,_⟩ | ⟨e2,_⟩⟩:=argH_is ar q
     · rw [e2] at e;cases e;have d':Data.seq vs.toArray _=Data.dict es ep:=d;cases d'
     · rw [e2] at e;cases e;have d':Data.seq vs.toArray _=Data.dict es ep:=d;cases d'
 generalize argH K s₁.heap A=H at hO hok hS hK noA;have base_of:∀ {b:Addr} {o:Obj},s₁.heap.get? b=some o→H b=none→(hidT s₁.heap H).get? b=some o:=fun e n=>hidT_get e n;have nsK:∀ {b:Addr} {m:Str→Option Value},s₁.heap.Ns b m→(hidT s₁.heap H).Ns b m:=fun {b m} ⟨o,es,ep,e,d,r⟩=>⟨o,es,ep,base_of e (noA e d),d,r⟩
 have nK:∀ b o,K.lookup b=some o→H b=none:=fun b o e=>by
   cases q:H b with
   | none=>rfl
   | some u =>
     rw [hK b u q] at e;cases e
 have hKb:K.In (hidT s₁.heap H):=fun b o e=>base_of (KX b o e) (nK b o e);have hM:Mod K mg (hidT s₁.heap H):=⟨hKb,nsK hns,⟨mb,nsK hb,hbb⟩,let ⟨mc,h1,h2⟩:=hlim; ⟨mc,nsK h1,h2⟩⟩;have e0:Env0 P w K mg (hidT s₁.heap H) callerA [] s₁ H:=⟨rfl,hM,fun b o e=>of_hidT e,Nat.le_of_eq (hidT_size _ _),trivial,fun b hb=>absurd (show b∈([]:List Addr) from hb) (by simp),hok,.of_eq hg⟩;have hl:vals.length=ps.length:=by rw [wellAll_len hwl]; exact hlen
 refine codeAny_mono ((F _ hKb (nsK hns)).run callerA [] s₁ H ⟨vals,[]⟩ vals (vals.map toV) _ _ hr e0 (hbind s₁ vals hl) hV (hsp H _ hO hS)) fun r s' x=>?_
 cases r with
 | error e=>exact (hCX H e s' x).elim
 | ok fl =>
   cases fl with
   | next=>exact False.elim x
   | brk=>exact False.elim x
   | cont=>exact False.elim x
   | ret u =>
     obtain ⟨v,H',os,bare,un,hok',r',q⟩:=x
     have kept:∀ b o,s₁.heap.get? b=some o→s'.heap.get? b=some o:=fun b o e=>by
       cases q2:H b with
       | none=>exact un.keep b o e q2 (by intro z; exact absurd (show b∈([]:List Addr) from z) (by simp)) (by simp)
       | some u2 =>
         rcases hO b with z | ⟨ob,u3,z⟩
         · rw [q2] at z;cases z
         · have z2:=un.frzs b ob _ z;obtain ⟨e1,_⟩:=hok b _ z;obtain ⟨e2,_⟩:=hok' b _ z2;rw [e] at e1;cases e1;exact e2
     have KX':K.In s'.heap:=fun b o e=>kept b o (KX b o e);obtain ⟨as,hrd⟩:=Dw.reads (R:=R) (cl:=cl) hok' KX' d0 v u q r';exact ⟨u,as,rfl,hrd,OldK.of_keep kept,os,bare⟩
theorem layable_weight {ds:List WData} (h:WData.layableAll ds=true):∀ d∈ds,d.weight≤1048576:=fun d hd =>
 (PySem.W.layableW_iff.mp (List.all_eq_true.mp h d hd)).2.2
theorem encAll_len:∀ (cs:List Codec) (a:Codec.denoteAll cs),(Codec.encAll cs a).length=cs.length
 | [],_=>rfl
 | c :: cs,a=>by
   show (Codec.encAll cs a.2).length+1=cs.length+1;rw [encAll_len cs a.2]
theorem walk_spec {r:OpenSpec} {k:Nat} {q:Program} {loose:List Str} {XP:(Str→Option Value)→Heap→Prop} {YP:World→Heap→Prop} {d:DefRec} {K:Params→PySem.W.Frag} {CX:World→CXT} {ps:List Str} {sp:World→Sp}
   (hwell:r.wellSaid=true) (hdf:d.params.defaults=[]) (hlen:r.args.length=ps.length) (hr:Room k callerA)
   (hY:∀ (w:World) (h:Heap),YP w h→(K w.params).In h)
   (F:∀ (w:World) (mg:Str→Option Value) (fa:Addr) (h:Heap),YP w h→(K w.params).In h→h.Ns mainGlobals mg→mg d.name=some (.ref fa) →
     ∃ fd:FuncData,(∀ (s:Shared) (us:List Value),us.length=ps.length→BindsTo s fd ⟨us,[]⟩ (ps.zip us)) ∧
       ∀ base:Heap,(K w.params).In base→base.Ns mainGlobals mg→FnOk r.prog w (K w.params) mg base (CX w) k fa fd ps (sp w))
   (hsp:∀ (w:World) (H:Hp) (xs:List V) (a:Codec.denoteAll r.args),OnlyF H→Codec.withinAll r.args a=true→Codec.app r.args r.asked a=true→DwAll (K w.params) H xs (Codec.encAll r.args a) →
     sp w xs H (fun v H'=>Dw (K w.params) H' v (r.ret.enc (Codec.app r.args r.f a))) fun _ _ _=>False)
   (hCX:∀ (w:World) (H:Hp) (s:Shared) (e:Value) (s':Shared),CX w [] H s (fun _ _ _=>False) e s'→False) :
   PySem.W.WalkOS q loose XP YP r d [] (fun f vs=>PySem.call f vs):=by
 intro w s_0 s₁ mg mb G Y fa o pm cd doc dV kV ho hd hcd hD hmg hg args vals as hpre hlay hrd hwl hlo;obtain ⟨a,e1,e2⟩:=PySem.W.os_pre_some hpre;obtain ⟨e3,hwi⟩:=Codec.encAll_of_decAll r.args args a e1;subst e3;have KX:=hY w _ Y;obtain ⟨fd,hb,hF⟩:=F w mg fa _ Y KX G.T.g hmg
 refine PySem.W.enter_call (codeAny_mono (spec_call (R:=[]) (cl:=classAt s_0.heap) (d0:=r.ret.enc (Codec.app r.args r.f a)) KX G.T.g G.T.b G.T.builtins G.T.nolimit hg hwl (pl_encAll _ _) (layable_weight hlay) hr hF hb (by rw [encAll_len]; exact hlen)
   (fun H xs hO hS=>hsp w H xs a hO hwi e2 hS) fun H e s'=>hCX w H s₁ e s') fun r' s' hq=>?_)
 obtain ⟨u,as',rfl,h1,h2,h3,h4⟩:=hq;exact ⟨.inl ⟨u,_,as',rfl,fun _=>rfl,h1,(OpenSpec.post_iff hwell hwi _ _).mpr rfl,fun z=>Bool.noConfusion (show false=true from z)⟩,h2,h3,h4⟩
theorem walk_specK {r:OpenSpec} {k:Nat} {q:Program} {loose:List Str} {XP:(Str→Option Value)→Heap→Prop} {YP:World→Heap→Prop} {d:DefRec} {K:Params→PySem.W.Frag} {CX:CXT} {ps:List Str} {sp:PySem.W.Frag→Sp}
   (hwell:r.wellSaid=true) (hdf:d.params.defaults=[]) (hlen:r.args.length=ps.length) (hr:Room k callerA)
   (hY:∀ (w:World) (h:Heap),YP w h→(K w.params).In h)
   (F:∀ (w:World) (mg:Str→Option Value) (fa:Addr) (h:Heap),YP w h→(K w.params).In h→h.Ns mainGlobals mg→mg d.name=some (.ref fa) →
     ∃ fd:FuncData,(∀ (s:Shared) (us:List Value),us.length=ps.length→BindsTo s fd ⟨us,[]⟩ (ps.zip us)) ∧
       ∀ base:Heap,(K w.params).In base→base.Ns mainGlobals mg→FnOk r.prog w (K w.params) mg base CX k fa fd ps (sp (K w.params)))
   (hsp:∀ (K:PySem.W.Frag) (H:Hp) (xs:List V) (a:Codec.denoteAll r.args),OnlyF H→Codec.withinAll r.args a=true→Codec.app r.args r.asked a=true→DwAll K H xs (Codec.encAll r.args a) →
     sp K xs H (fun v H'=>Dw K H' v (r.ret.enc (Codec.app r.args r.f a))) fun _ _ _=>False)
   (hCX:∀ (H:Hp) (s:Shared) (e:Value) (s':Shared),CX [] H s (fun _ _ _=>False) e s'→False) :
   PySem.W.WalkOS q loose XP YP r d [] (fun f vs=>PySem.call f vs) :=
 walk_spec (K:=K) (CX:=fun _=>CX) (sp:=fun w=>sp (K w.params)) hwell hdf hlen hr hY F (fun w H xs a h1 h2 h3 h4=>hsp (K w.params) H xs a h1 h2 h3 h4) fun _ H s e s'=>hCX H s e s'
end L2
end

section
set_option Elab.async false
set_option linter.all false
namespace Ho
theorem uncons {α:Type}:∀ {l:List α} {n:Nat},l.length=n+1→∃ a r,l=a :: r∧r.length=n
 | a :: r,_,h=>⟨a,r,rfl,Nat.succ.inj h⟩
@[elab_as_elim] theorem ln1 {α:Type} {P:List α→Prop} (us:List α) (h:us.length=1) (k:∀ a,P [a]):P us:=by
 obtain ⟨a,r,e,h⟩:=uncons h;rw [e,List.length_eq_zero_iff.mp h];exact k a
@[elab_as_elim] theorem ln2 {α:Type} {P:List α→Prop} (us:List α) (h:us.length=2) (k:∀ a b,P [a,b]):P us:=by
 obtain ⟨a,r,e,h⟩:=uncons h;rw [e];exact ln1 (P:=fun l=>P (a :: l)) r h (k a)
@[elab_as_elim] theorem ln3 {α:Type} {P:List α→Prop} (us:List α) (h:us.length=3) (k:∀ a b c,P [a,b,c]):P us:=by
 obtain ⟨a,r,e,h⟩:=uncons h;rw [e];exact ln2 (P:=fun l=>P (a :: l)) r h (k a)
@[elab_as_elim] theorem ln4 {α:Type} {P:List α→Prop} (us:List α) (h:us.length=4) (k:∀ a b c d,P [a,b,c,d]):P us:=by
 obtain ⟨a,r,e,h⟩:=uncons h;rw [e];exact ln3 (P:=fun l=>P (a :: l)) r h (k a)
@[elab_as_elim] theorem ln5 {α:Type} {P:List α→Prop} (us:List α) (h:us.length=5) (k:∀ a b c d e,P [a,b,c,d,e]):P us:=by
 obtain ⟨a,r,e,h⟩:=uncons h;rw [e];exact ln4 (P:=fun l=>P (a :: l)) r h (k a)
theorem six {α:Type} {l:List α} {a:α} (h:(a :: l).length=6):∃ b c d e f,l=[b,c,d,e,f]:=ln5 (P:=fun l=>∃ b c d e f,l=[b,c,d,e,f]) l (Nat.succ.inj h) fun b c d e f=>⟨b,c,d,e,f,rfl⟩
theorem seven {α:Type} {l:List α} {a:α} (h:(a :: l).length=7):∃ b c d e f g,l=[b,c,d,e,f,g]:=by
 obtain ⟨b,r,e,h⟩:=uncons (Nat.succ.inj h);obtain ⟨c,d,e',f,g,e2⟩:=six (a:=b) (congrArg (· + 1) h);exact ⟨b,c,d,e',f,g,by rw [e,e2]⟩
theorem at_cons {α β:Type} {P:α→β→Prop} {a:α} {b:β} {l:List α} {r:List β} (h:P a b) (k:∀ (i:Nat) x y,l[i]? = some x→r[i]? = some y→P x y):∀ (i:Nat) x y,(a :: l)[i]? = some x→(b :: r)[i]? = some y→P x y
 | 0,_,_,h1,h2=>Option.some.inj h1 ▸ Option.some.inj h2 ▸ h
 | i+1,x,y,h1,h2=>k i x y h1 h2
theorem at_nil {α β:Type} {P:α→β→Prop} {r:List β}:∀ (i:Nat) x y,([]:List α)[i]? = some x→r[i]? = some y→P x y:=fun _ _ _ h _=>nomatch h
theorem below_succ {P:Nat→Prop} {m:Nat} (h:∀ n,n < m→P n) (hm:P m):∀ n,n < m+1→P n:=fun n hn=>(Nat.lt_succ_iff_lt_or_eq.mp hn).elim (h n) fun e=>e ▸ hm
theorem below6 {P:Nat→Prop} (h0:P 0) (h1:P 1) (h2:P 2) (h3:P 3) (h4:P 4) (h5:P 5) {n:Nat}:n < 6→P n :=
 below_succ (below_succ (below_succ (below_succ (below_succ (below_succ (fun n h=>absurd h (Nat.not_lt_zero n)) h0) h1) h2) h3) h4) h5 n
noncomputable abbrev Cs:=List Nat
noncomputable def dig (c:Nat):Bool:=decide (48≤c) && decide (c≤57)
noncomputable def low (c:Nat):Bool:=decide (97≤c) && decide (c≤122)
noncomputable def okc (c:Nat):Bool:=c == 10 || c == 32 || dig c || low c
noncomputable def sg (c:Nat):Nat:=if okc c=true then c else 63
noncomputable def Gd (c:Nat):Prop:=okc c=true∨c=63
noncomputable def cutN (c:Nat):Cs→List Cs
 | []=>[[]]
 | x :: r=>if x=c then [] :: cutN c r else match cutN c r with
   | []=>[[x]]
   | w :: l=>(x :: w) :: l
noncomputable def isName (w:Cs):Bool:=(!w.isEmpty && w.all fun c=>low c || dig c) && decide (w.length≤12)
noncomputable def dval (l:Cs):Nat:=l.foldl (fun a c=>a*10+(c - 48)) 0
noncomputable def canon (w:Cs):Bool:=(!w.isEmpty && w.all dig) && !(decide (w.headD 0=48) && decide (1 < w.length))
noncomputable def num (w:Cs):Int:=if canon w=true then (if 4 < w.length then 10000 else (dval w:Int)) else -1
noncomputable def allIn (lo hi:Int) (l:List Int):Bool:=l.all fun n=>decide (lo≤n) && decide (n≤hi)
noncomputable def wayOf (c:Nat):Int:=if c=114 then 0 else if c=108 then 1 else if c=98 then 2 else if c=102 then 3 else if c=117 then 4 else if c=100 then 5 else -1
noncomputable def readWays (w:Cs):List Int:=match w.map wayOf with
 | [a,b]=>if a = -1∨b = -1∨a / 2=b / 2 then [] else [a,b,(Jo.upOf a.toNat b.toNat:Nat)]
 | _=>[]
structure MPart where
 w:Nat
 d:Nat
 h:Nat
 cuts:Nat
 rows:List Nat
structure MPut where
 part:Nat
 ways:List Int
 cor:List Int
structure MW where
 parts:List (Cs × MPart)
 puts:List MPut
noncomputable def MW.none:MW:=⟨[],[]⟩
noncomputable def wP:Cs:=[112,97,114,116]
noncomputable def wC:Cs:=[99,117,116]
noncomputable def wU:Cs:=[112,117,116]
noncomputable def at_ (ws:List Cs) (i:Nat):Cs:=ws.getD i []
noncomputable def isGrain (w:Cs):Bool:=w == [120] || w == [121] || w == [122]
noncomputable def nums (ws:List Cs) (i:Nat):List Int:=((ws.drop i).take 3).map num
noncomputable def newPart (s:List Int):MPart:=⟨(s.getD 0 0).toNat,(s.getD 1 0).toNat,(s.getD 2 0).toNat,0,List.replicate ((s.getD 1 0).toNat*(s.getD 2 0).toNat) (2 ^ (s.getD 0 0).toNat - 1)⟩
noncomputable def MW.idx (m:MW) (n:Cs):Nat:=m.parts.findIdx fun p=>p.1 == n
noncomputable def MW.knows (m:MW) (n:Cs):Bool:=m.parts.any fun p=>p.1 == n
noncomputable def readPart (m:MW) (ws:List Cs):Int × MW :=
 if ¬ ws.length=6∨isName (at_ ws 1)=false∨allIn 1 16 (nums ws 2)=false∨isGrain (at_ ws 5)=false then (1,m)
 else if m.puts≠[] then (3,m) else if m.knows (at_ ws 1)=true then (4,m) else if m.parts.length=32 then (2,m)
 else (0,{ m with parts:=m.parts++[(at_ ws 1,newPart (nums ws 2))] })
noncomputable def clr (r g:Nat):Nat:=r - (r &&& g)
noncomputable def cutRow (d gone y z:Nat) (R:List Nat) (j:Nat):List Nat:=R.set (y+j+d*z) (clr (R.getD (y+j+d*z) 0) gone)
noncomputable def cutFlat (d gone y dd:Nat) (R:List Nat) (z:Nat):List Nat:=(List.range dd).foldl (cutRow d gone y z) R
noncomputable def cutAway (d:Nat) (R:List Nat) (x y z w dd h:Nat):List Nat:=(List.range h).foldl (fun R k=>cutFlat d ((2 ^ w - 1)*2 ^ x) y dd R (z+k)) R
noncomputable def MPart.cut (p:MPart) (c l:List Int):MPart :=
 { p with cuts:=p.cuts+1,rows:=cutAway p.d p.rows (c.getD 0 0).toNat (c.getD 1 0).toNat (c.getD 2 0).toNat (l.getD 0 0).toNat (l.getD 1 0).toNat (l.getD 2 0).toNat }
noncomputable def MPart.beyond (p:MPart) (c l:List Int):Bool:=decide ((p.w:Int) < c.getD 0 0+l.getD 0 0) || (decide ((p.d:Int) < c.getD 1 0+l.getD 1 0) || decide ((p.h:Int) < c.getD 2 0+l.getD 2 0))
noncomputable def readCut (m:MW) (ws:List Cs):Int × MW :=
 if ¬ ws.length=7∨(nums ws 1).contains (-1)=true∨allIn 1 16 (nums ws 4)=false then (1,m)
 else match m.parts.getLast? with
   | .none=>(3,m)
   | some p=>if m.puts≠[] then (3,m) else if p.2.beyond (nums ws 1) (nums ws 4)=true then (4,m) else if p.2.cuts=64 then (2,m)
     else (0,{ m with parts:=m.parts.dropLast++[(p.1,p.2.cut (nums ws 1) (nums ws 4))] })
noncomputable def readPut (m:MW) (ws:List Cs):Int × MW :=
 if ¬ ws.length=6∨isName (at_ ws 1)=false∨allIn 0 48 (nums ws 3)=false then (1,m)
 else if readWays (at_ ws 2)=[] then (1,m) else if m.parts=[] then (3,m) else if m.knows (at_ ws 1)=false then (4,m) else if m.puts.length=32 then (2,m)
 else (0,{ m with puts:=m.puts++[⟨m.idx (at_ ws 1),readWays (at_ ws 2),nums ws 3⟩] })
noncomputable def readLine (m:MW) (l:Cs):Int × MW:=let ws:=cutN 32 l
 if at_ ws 0=wP then readPart m ws else if at_ ws 0=wC then readCut m ws else if at_ ws 0=wU then readPut m ws else (1,m)
noncomputable def readAll:Nat→MW→List Cs→MW × List Int
 | _,m,[]=>(m,[])
 | k,m,l :: r=>let x:=readLine m l
   if x.1≠0 then (x.2,[(k:Int),x.1]) else readAll (k+1) x.2 r
noncomputable def readText (t:Cs):MW × List Int:=let ls:=cutN 10 t
 let x:=readAll 0 .none ls.dropLast
 if x.2≠[] then x else if ls.getLastD []≠[] then (x.1,[(ls.dropLast.length:Int),1]) else x
noncomputable def stride (way:Int):Int:=if way / 2=0 then 1 else if way / 2=1 then 64 else 4096
noncomputable def startOf (s cor:List Int):List Int→Nat→Int→List Int→Int × List Int
 | [],_,st,sp=>(st,sp)
 | v :: r,k,st,sp=>if v % 2=0 then startOf s cor r (k+1) (st+cor.getD (v / 2).toNat 0*stride v) (sp++[stride v])
   else startOf s cor r (k+1) (st+cor.getD (v / 2).toNat 0*stride v+(s.getD k 0 - 1)*stride v) (sp++[-stride v])
noncomputable def rowCells (w:Nat) (b s0:Int) (row:Nat):List Int:=((List.range w).filter fun x=>row / 2 ^ x % 2 == 1).map fun (x:Nat)=>b+(x:Int)*s0
noncomputable def rowsCells (w d:Nat) (st:Int) (sp:List Int):Nat→List Nat→List Int
 | _,[]=>[]
 | n,row :: r=>rowCells w (st+(n:Int) % (d:Int)*sp.getD 1 0+(n:Int) / (d:Int)*sp.getD 2 0) (sp.getD 0 0) row++rowsCells w d st sp (n+1) r
noncomputable def putCells (p:MPart) (u:MPut):List Int:=let x:=startOf [(p.w:Int),p.d,p.h] u.cor u.ways 0 0 []
 rowsCells p.w p.d x.1 x.2 0 p.rows
noncomputable def noPart:MPart:=⟨0,0,0,0,[]⟩
noncomputable def MW.cells (m:MW):List (List Int):=m.puts.map fun u=>putCells ((m.parts.getD u.part ([],noPart)).2) u
noncomputable abbrev Own:=List (Int × Nat)
noncomputable def ownStep (j:Nat) (x:Own × Option (Nat × Nat)) (c:Int):Own × Option (Nat × Nat) :=
 match x.1.lookup c with
 | some i=>(x.1,if i≠j∧(∀ q∈x.2,i < q.1) then some (i,j) else x.2)
 | .none=>(x.1++[(c,j)],x.2)
noncomputable def overFrom:Nat→Own × Option (Nat × Nat)→List (List Int)→Own × Option (Nat × Nat)
 | _,x,[]=>x
 | j,x,cs :: r=>overFrom (j+1) (cs.foldl (ownStep j) x) r
noncomputable def firstOverlap (puts:List (List Int)):Option (Nat × Nat):=(overFrom 0 ([],.none) puts).2
noncomputable def pairL:Option (Nat × Nat)→List Int
 | some p=>[(p.1:Int),(p.2:Int)]
 | .none=>[]
noncomputable def readWork (ns:List Int):List Int × List (List Int) :=
 if 65536 < ns.length then ([-2],[]) else
   let x:=readText (ns.map fun n=>sg n.toNat)
   if x.2≠[] then (-6 :: x.2,[]) else
     let cs:=x.1.cells
     match firstOverlap cs with
     | some p=>(-9 :: pairL (some p),cs)
     | .none=>([],cs)
noncomputable def judge (ns:List Int):List Int:=if (readWork ns).1≠[] then (readWork ns).1 else [0]
end Ho
end
section
set_option Elab.async false
set_option linter.all false
namespace Ho
noncomputable def MW.pt (m:MW) (k:Nat):MPart:=(m.parts.getD k ([],noPart)).2
noncomputable def MW.pu (m:MW) (k:Nat):MPut:=m.puts.getD k ⟨0,[],[]⟩
structure MPart.Wf (p:MPart):Prop where
 w:1≤p.w∧p.w≤16
 d:1≤p.d∧p.d≤16
 h:1≤p.h∧p.h≤16
 len:p.rows.length=p.d*p.h
 cuts:p.cuts≤64
 small:∀ r∈p.rows,r < 2 ^ 16
structure MPut.Wf (n:Nat) (u:MPut):Prop where
 part:u.part < n
 ways:∃ a b:Nat,a < 6∧b < 6∧a / 2≠b / 2∧u.ways=[(a:Int),(b:Int),(Jo.upOf a b:Nat)]
 cor:∃ x y z:Nat,x≤48∧y≤48∧z≤48∧u.cor=[(x:Int),(y:Int),(z:Int)]
structure MW.Wf (m:MW):Prop where
 np:m.parts.length≤32
 nu:m.puts.length≤32
 part:∀ p∈m.parts,p.2.Wf
 put:∀ u∈m.puts,u.Wf m.parts.length
theorem MW.Wf.none:MW.none.Wf:=⟨Nat.zero_le _,Nat.zero_le _,fun p h=>(by cases h),fun u h=>(by cases h)⟩
theorem getD_at {α:Type} {l:List α} {k:Nat} (d:α) (h:k < l.length):l[k]? = some (l.getD k d):=by
 rw [List.getD_eq_getElem?_getD,List.getElem?_eq_getElem h];rfl
theorem MW.Wf.pt {m:MW} (W:m.Wf) {k:Nat} (h:k < m.parts.length):(m.pt k).Wf:=W.part _ (List.mem_of_getElem? (getD_at ([],noPart) h))
theorem MW.Wf.pu {m:MW} (W:m.Wf) {k:Nat} (h:k < m.puts.length):(m.pu k).Wf m.parts.length:=W.put _ (List.mem_of_getElem? (getD_at ⟨0,[],[]⟩ h))
end Ho
end
section
set_option Elab.async false
set_option linter.all false
namespace Ho
theorem readAll_app:∀ (l:List Cs) (k:Nat) (m m':MW) (r:List Cs),readAll k m l=(m',[])→readAll k m (l++r)=readAll (k+l.length) m' r
 | [],k,m,m',r,h=>by
   injection h with h1 h2;subst h1
   rfl
 | x :: l,k,m,m',r,h=>by
   have e:∀ r,readAll k m (x :: r)=if (readLine m x).1≠0 then ((readLine m x).2,[(k:Int),(readLine m x).1]) else readAll (k+1) (readLine m x).2 r:=fun _=>rfl;rw [e] at h;rw [List.cons_append,e];by_cases hx:(readLine m x).1≠0
   · rw [if_pos hx] at h;injection h with _ h2;cases h2
   · rw [if_neg hx] at h ⊢;rw [readAll_app l (k+1) _ m' r h,List.length_cons];congr 1;omega
theorem readAll_cons (k:Nat) (m:MW) (x:Cs) (r:List Cs):readAll k m (x :: r)=if (readLine m x).1≠0 then ((readLine m x).2,[(k:Int),(readLine m x).1]) else readAll (k+1) (readLine m x).2 r:=rfl
theorem readAll_len:∀ (l:List Cs) (k:Nat) (m:MW),(readAll k m l).2.length≤2
 | [],_,_=>Nat.zero_le _
 | x :: l,k,m=>by
   rw [readAll_cons];by_cases h:(readLine m x).1≠0
   · rw [if_pos h];exact Nat.le_refl _
   · rw [if_neg h];exact readAll_len l _ _
theorem readText_len (t:Cs):(readText t).2.length≤2:=by
 unfold readText;simp only;split
 · exact readAll_len _ _ _
 · split
   · exact Nat.le_refl _
   · exact readAll_len _ _ _
theorem wayOf_rng (c:Nat):wayOf c = -1∨∃ m:Nat,m < 6∧wayOf c=(m:Int):=by
 unfold wayOf
 repeat' split
 all_goals first | exact .inl rfl | exact .inr ⟨0,by decide,rfl⟩ | exact .inr ⟨1,by decide,rfl⟩ | exact .inr ⟨2,by decide,rfl⟩ | exact .inr ⟨3,by decide,rfl⟩ | exact .inr ⟨4,by decide,rfl⟩ | exact .inr ⟨5,by decide,rfl⟩
theorem readWays_some {w:Cs} (h:readWays w≠[]):∃ x y a b:Nat,w=[x,y]∧wayOf x=(a:Int)∧wayOf y=(b:Int)∧a < 6∧b < 6∧a / 2≠b / 2∧readWays w=[(a:Int),(b:Int),(Jo.upOf a b:Nat)]:=by
 match w,h with
 | [],h=>exact absurd rfl h
 | [_],h=>exact absurd rfl h
 | [x,y],h =>
   have e:readWays [x,y]=if wayOf x = -1∨wayOf y = -1∨wayOf x / 2=wayOf y / 2 then [] else [wayOf x,wayOf y,(Jo.upOf (wayOf x).toNat (wayOf y).toNat:Nat)]:=rfl;rw [e] at h;by_cases hc:wayOf x = -1∨wayOf y = -1∨wayOf x / 2=wayOf y / 2
   · rw [if_pos hc] at h;exact absurd rfl h
   · rw [if_neg hc] at e;obtain ⟨a,ha,ea⟩:=(wayOf_rng x).resolve_left fun z=>hc (.inl z);obtain ⟨b,hb,eb⟩:=(wayOf_rng y).resolve_left fun z=>hc (.inr (.inl z));refine ⟨x,y,a,b,rfl,ea,eb,ha,hb,fun z=>hc (.inr (.inr ?_)),?_⟩
     · rw [ea,eb];omega
     · rw [e,ea,eb]
       rfl
 | _ :: _ :: _ :: _,h=>exact absurd rfl h
theorem nums3 {ws:List Cs} {i:Nat} (h:i+3≤ws.length):∃ a b c,nums ws i=[num (at_ ws i),num (at_ ws (i+1)),num (at_ ws (i+2))]∧num (at_ ws i)=a∧num (at_ ws (i+1))=b∧num (at_ ws (i+2))=c:=by
 refine ⟨_,_,_,?_,rfl,rfl,rfl⟩;unfold nums at_
 have e:(ws.drop i).take 3=[ws.getD i [],ws.getD (i+1) [],ws.getD (i+2) []]:=by
   have h0:i < ws.length:=by omega
   have h1:i+1 < ws.length:=by omega
   have h2:i+2 < ws.length:=by omega
   rw [List.drop_eq_getElem_cons h0,List.drop_eq_getElem_cons h1,List.drop_eq_getElem_cons h2];simp only [List.take_succ_cons,List.take_zero,List.getD_eq_getElem?_getD,List.getElem?_eq_getElem h0,List.getElem?_eq_getElem h1,List.getElem?_eq_getElem h2,Option.getD_some]
 rw [e];rfl
theorem allIn3 {lo hi a b c:Int} (h:allIn lo hi [a,b,c]=true):(lo≤a∧a≤hi)∧(lo≤b∧b≤hi)∧(lo≤c∧c≤hi):=by
 unfold allIn at h
 simpa using h
theorem newPart_wf {a b c:Int} (h:allIn 1 16 [a,b,c]=true):(newPart [a,b,c]).Wf:=by
 obtain ⟨⟨a1,a2⟩,⟨b1,b2⟩,c1,c2⟩:=allIn3 h;refine ⟨⟨?_,?_⟩,⟨?_,?_⟩,⟨?_,?_⟩,?_,Nat.zero_le _,fun r hr=>?_⟩
 · show 1≤a.toNat; omega
 · show a.toNat≤16; omega
 · show 1≤b.toNat; omega
 · show b.toNat≤16; omega
 · show 1≤c.toNat; omega
 · show c.toNat≤16; omega
 · exact List.length_replicate
 · have e:r=2 ^ a.toNat - 1:=(List.mem_replicate.mp hr).2;have h1:2 ^ a.toNat≤2 ^ 16:=Nat.pow_le_pow_right (by decide) (by omega);have h2:0 < 2 ^ a.toNat:=Nat.two_pow_pos _;omega
theorem fold_keep {f:List Nat→Nat→List Nat} {Pr:List Nat→Prop} (h:∀ R j,Pr R→Pr (f R j)):∀ (l:List Nat) (R:List Nat),Pr R→Pr (l.foldl f R)
 | [],_,p=>p
 | a :: l,R,p=>by
   rw [List.foldl_cons];exact fold_keep h l _ (h R a p)
theorem cutAway_keep {Pr:List Nat→Prop} (d:Nat) (h:∀ (R:List Nat) (i g:Nat),Pr R→Pr (R.set i (clr (R.getD i 0) g))) (R:List Nat) (x y z w dd hh:Nat) (p:Pr R):Pr (cutAway d R x y z w dd hh):=by
 unfold cutAway;refine fold_keep (fun R k pR=>?_) _ _ p;unfold cutFlat
 exact fold_keep (fun R j pR=>h R _ _ pR) _ _ pR
theorem cut_wf {p:MPart} (W:p.Wf) (hc:p.cuts≠64) (c l:List Int):(p.cut c l).Wf:=by
 have k:(cutAway p.d p.rows (c.getD 0 0).toNat (c.getD 1 0).toNat (c.getD 2 0).toNat (l.getD 0 0).toNat (l.getD 1 0).toNat (l.getD 2 0).toNat).length=p.d*p.h∧∀ r∈cutAway p.d p.rows (c.getD 0 0).toNat (c.getD 1 0).toNat (c.getD 2 0).toNat (l.getD 0 0).toNat (l.getD 1 0).toNat (l.getD 2 0).toNat,r < 2 ^ 16:=by
   refine cutAway_keep (Pr:=fun R=>R.length=p.d*p.h∧∀ r∈R,r < 2 ^ 16) p.d (fun R i g pR=>⟨by rw [List.length_set]; exact pR.1,fun r hr=>?_⟩) _ _ _ _ _ _ _ ⟨W.len,W.small⟩;rcases List.mem_or_eq_of_mem_set hr with h | h
   · exact pR.2 r h
   · have h1:clr (R.getD i 0) g≤R.getD i 0:=Nat.sub_le _ _
     have h2:R.getD i 0 < 2 ^ 16:=by
       rw [List.getD_eq_getElem?_getD];by_cases hi:i < R.length
       · rw [List.getElem?_eq_getElem hi];exact pR.2 _ (List.getElem_mem hi)
       · rw [List.getElem?_eq_none (by omega)];exact Nat.two_pow_pos 16
     omega
 exact ⟨W.w,W.d,W.h,k.1,(by have:=W.cuts; show p.cuts+1≤64; omega),k.2⟩
theorem readPart_wf {m:MW} {ws:List Cs} (W:m.Wf):(readPart m ws).2.Wf:=by
 unfold readPart;by_cases h1:¬ ws.length=6∨isName (at_ ws 1)=false∨allIn 1 16 (nums ws 2)=false∨isGrain (at_ ws 5)=false
 · rw [if_pos h1]; exact W
 rw [if_neg h1];by_cases h2:m.puts≠[]
 · rw [if_pos h2]; exact W
 rw [if_neg h2];by_cases h3:m.knows (at_ ws 1)=true
 · rw [if_pos h3]; exact W
 rw [if_neg h3];by_cases h4:m.parts.length=32
 · rw [if_pos h4]; exact W
 rw [if_neg h4];have hl:ws.length=6:=Classical.not_not.mp fun h=>h1 (.inl h)
 have hA:allIn 1 16 (nums ws 2)=true:=by
   cases h:allIn 1 16 (nums ws 2) with
   | true=>rfl
   | false=>exact absurd (.inr (.inr (.inl h))) h1
 have hp:m.puts=[]:=Classical.not_not.mp h2;obtain ⟨a,b,c,e,e1,e2,e3⟩:=nums3 (ws:=ws) (i:=2) (by omega);rw [e1,e2,e3] at e;rw [e] at hA;refine ⟨?_,W.nu,fun p hp2=>?_,fun u hu=>?_⟩
 · show (m.parts++[_]).length≤32;rw [List.length_append,List.length_singleton];have:=W.np;omega
 · rcases List.mem_append.mp hp2 with h | h
   · exact W.part p h
   · rw [List.mem_singleton.mp h];show (newPart (nums ws 2)).Wf;rw [e];exact newPart_wf hA
 · have hu:u∈m.puts:=hu;rw [hp] at hu;cases hu
theorem readCut_wf {m:MW} {ws:List Cs} (W:m.Wf):(readCut m ws).2.Wf:=by
 unfold readCut;split
 · exact W
 split
 · exact W
 · rename_i p hp
   split
   · exact W
   split
   · exact W
   split
   · exact W
   · rename_i h2 _ h64
     obtain ⟨ys,e⟩:=List.getLast?_eq_some_iff.mp hp;have hpm:p∈m.parts:=by rw [e]; simp
     refine ⟨?_,W.nu,fun q hq=>?_,fun u hu=>?_⟩
     · show (m.parts.dropLast++[_]).length≤32;rw [List.length_append,List.length_singleton,List.length_dropLast];have:=W.np;have:0 < m.parts.length:=List.length_pos_of_mem hpm;omega
     · rcases List.mem_append.mp hq with h | h
       · exact W.part q ((List.dropLast_sublist m.parts).subset h)
       · rw [List.mem_singleton.mp h];exact cut_wf (W.part p hpm) h64 _ _
     · have hu:u∈m.puts:=hu;rw [Classical.not_not.mp h2] at hu;cases hu
theorem readPut_wf {m:MW} {ws:List Cs} (W:m.Wf):(readPut m ws).2.Wf:=by
 unfold readPut;by_cases h1:¬ ws.length=6∨isName (at_ ws 1)=false∨allIn 0 48 (nums ws 3)=false
 · rw [if_pos h1]; exact W
 rw [if_neg h1];by_cases h2:readWays (at_ ws 2)=[]
 · rw [if_pos h2]; exact W
 rw [if_neg h2];by_cases h3:m.parts=[]
 · rw [if_pos h3]; exact W
 rw [if_neg h3];by_cases h4:m.knows (at_ ws 1)=false
 · rw [if_pos h4]; exact W
 rw [if_neg h4];by_cases h5:m.puts.length=32
 · rw [if_pos h5]; exact W
 rw [if_neg h5];have hl:ws.length=6:=Classical.not_not.mp fun h=>h1 (.inl h)
 have hA:allIn 0 48 (nums ws 3)=true:=by
   cases h:allIn 0 48 (nums ws 3) with
   | true=>rfl
   | false=>exact absurd (.inr (.inr h)) h1
 obtain ⟨a,b,c,e,e1,e2,e3⟩:=nums3 (ws:=ws) (i:=3) (by omega);rw [e1,e2,e3] at e;rw [e] at hA;obtain ⟨⟨a1,a2⟩,⟨b1,b2⟩,c1,c2⟩:=allIn3 hA;refine ⟨W.np,?_,W.part,fun u hu=>?_⟩
 · show (m.puts++[_]).length≤32;rw [List.length_append,List.length_singleton];have:=W.nu;omega
 · rcases List.mem_append.mp hu with h | h
   · exact W.put u h
   · rw [List.mem_singleton.mp h];refine ⟨?_,?_,⟨a.toNat,b.toNat,c.toNat,by omega,by omega,by omega,?_⟩⟩
     · show m.idx (at_ ws 1) < m.parts.length;unfold MW.idx;rw [List.findIdx_lt_length];have hk:m.knows (at_ ws 1)=true:=by simpa using h4
       obtain ⟨z,hz,hz2⟩:=List.any_eq_true.mp hk;exact ⟨z,hz,hz2⟩
     · obtain ⟨_,_,x,y,_,_,_,hx,hy,hxy,er⟩:=readWays_some h2;exact ⟨x,y,hx,hy,hxy,er⟩
     · show nums ws 3=_;rw [e];congr 1
       · omega
       congr 1
       · omega
       congr 1;omega
theorem readLine_wf {m:MW} {l:Cs} (W:m.Wf):(readLine m l).2.Wf:=by
 unfold readLine;simp only;split
 · exact readPart_wf W
 split
 · exact readCut_wf W
 split
 · exact readPut_wf W
 · exact W
end Ho
end
section
set_option Elab.async false
set_option linter.all false
namespace Ho
open Jo (Bytes)
theorem u8 {Pr:UInt8→Prop} (h:∀ n:Fin 256,Pr (UInt8.ofNat n.val)) (c:UInt8):Pr c:=by
 have:=h ⟨c.toNat,c.toNat_lt⟩
 rwa [show UInt8.ofNat c.toNat=c from UInt8.ofNat_toNat] at this
noncomputable def sgB (c:UInt8):Nat:=sg c.toNat
theorem sgB_32:∀ c:UInt8,(sgB c=32)=(c=32):=u8 (Pr:=fun c=>(sgB c=32)=(c=32)) (fun n=>by
 apply propext;revert n;decide +kernel)
theorem sgB_10:∀ c:UInt8,(sgB c=10)=(c=10):=u8 (Pr:=fun c=>(sgB c=10)=(c=10)) (fun n=>by
 apply propext;revert n;decide +kernel)
theorem sgB_name:∀ c:UInt8,(low (sgB c) || dig (sgB c))=((decide (97≤c) && decide (c≤122)) || (decide (48≤c) && decide (c≤57))):=u8 (by decide +kernel)
noncomputable def dB (c:UInt8):Bool:=decide (48≤c.toNat) && decide (c.toNat≤57)
theorem sgB_dig:∀ c:UInt8,dig (sgB c)=dB c:=u8 (by decide +kernel)
theorem sgB_way:∀ c:UInt8,wayOf (sgB c)=if Jo.WAYS.idxOf c < 6 then (Jo.WAYS.idxOf c:Int) else -1:=u8 (by decide +kernel)
theorem way_back:∀ c:UInt8,Jo.WAYS.idxOf c < 6→Jo.WAYS.getD (Jo.WAYS.idxOf c) 0=c:=u8 (by decide +kernel)
theorem sgB_inj:∀ c:UInt8,∀ d:UInt8,(low d.toNat || dig d.toNat)=true→sgB c=d.toNat→c=d:=by
 have h:∀ c:UInt8,(low c.toNat || dig c.toNat)=true∨(low (sgB c) || dig (sgB c))=false:=u8 (by decide +kernel);have h2:∀ c:UInt8,(low c.toNat || dig c.toNat)=true→sgB c=c.toNat:=u8 (by decide +kernel);intro c d hd e;rcases h c with q | q
 · rw [h2 c q] at e;exact UInt8.toNat_inj.mp e
 · rw [e,hd] at q;cases q
theorem sgB_self:∀ c:UInt8,(low c.toNat || dig c.toNat)=true→sgB c=c.toNat:=u8 (by decide +kernel)
theorem dB_self:∀ c:UInt8,dB c=true→sgB c=c.toNat:=u8 (by decide +kernel)
theorem cut_map {c:Nat} {d:UInt8} (h:∀ x:UInt8,(sgB x=c)=(x=d)):∀ b:Bytes,cutN c (b.map sgB)=(Jo.cutAt d b).map (·.map sgB)
 | []=>rfl
 | x :: r=>by
   have ih:=cut_map h r;show (if sgB x=c then [] :: cutN c (r.map sgB) else match cutN c (r.map sgB) with | []=>[[sgB x]] | w :: l=>(sgB x :: w) :: l)=(if x=d then [] :: Jo.cutAt d r else match Jo.cutAt d r with | []=>[[x]] | w :: l=>(x :: w) :: l).map (·.map sgB);by_cases hx:x=d
   · rw [if_pos hx,if_pos (by rw [h]; exact hx),ih];rfl
   · rw [if_neg hx,if_neg (by rw [h]; exact hx),ih]
     cases Jo.cutAt d r with
     | nil=>rfl
     | cons w l=>rfl
theorem cutAt_ne (c:UInt8):∀ b:Bytes,Jo.cutAt c b≠[]
 | []=>by simp [Jo.cutAt]
 | x :: r=>by
   unfold Jo.cutAt;split
   · simp
   · split <;> simp
theorem cutAt_hit (c:UInt8) (r:Bytes):Jo.cutAt c (c :: r)=[] :: Jo.cutAt c r:=by
 show (if c=c then _ else _)=_;rw [if_pos rfl]
theorem cutAt_miss {c x:UInt8} (h:x≠c) (r:Bytes):∃ w l,Jo.cutAt c r=w :: l∧Jo.cutAt c (x :: r)=(x :: w) :: l:=by
 cases e:Jo.cutAt c r with
 | nil=>exact absurd e (cutAt_ne c r)
 | cons w l =>
   refine ⟨w,l,rfl,?_⟩;show (if x=c then _ else match Jo.cutAt c r with | []=>[[x]] | w :: l=>(x :: w) :: l)=_;rw [if_neg h,e]
theorem spaced_cut:∀ b:Bytes,Jo.spaced (Jo.cutAt 32 b)=b
 | []=>rfl
 | x :: r=>by
   have ih:=spaced_cut r;by_cases hx:x=32
   · subst hx;rw [cutAt_hit]
     cases e:Jo.cutAt 32 r with
     | nil=>exact absurd e (cutAt_ne 32 r)
     | cons w l =>
       rw [e] at ih;show []++(32 :: Jo.spaced (w :: l))=_;rw [ih];rfl
   · obtain ⟨w,l,e1,e2⟩:=cutAt_miss hx r;rw [e2];rw [e1] at ih
     cases l with
     | nil =>
       have ih:w=r:=ih;show x :: w=x :: r
       rw [ih]
     | cons v l =>
       have ih:w++(32 :: Jo.spaced (v :: l))=r:=ih;show (x :: w)++(32 :: Jo.spaced (v :: l))=x :: r;rw [List.cons_append,ih]
theorem cutAt_word (c:UInt8) (u:Bytes):∀ w:Bytes,c ∉ w→Jo.cutAt c (w++(c :: u))=w :: Jo.cutAt c u
 | [],_=>cutAt_hit c u
 | x :: w,h=>by
   have hx:x≠c:=fun e=>h (by rw [e]; simp);have ih:=cutAt_word c u w fun m=>h (List.mem_cons_of_mem _ m);obtain ⟨w',l,e1,e2⟩:=cutAt_miss hx (w++(c :: u));rw [List.cons_append,e2];rw [ih] at e1;injection e1 with e3 e4;rw [e3,e4]
theorem cutAt_last (c:UInt8):∀ w:Bytes,c ∉ w→Jo.cutAt c w=[w]
 | [],_=>rfl
 | x :: w,h=>by
   have hx:x≠c:=fun e=>h (by rw [e]; simp);have ih:=cutAt_last c w fun m=>h (List.mem_cons_of_mem _ m);obtain ⟨w',l,e1,e2⟩:=cutAt_miss hx w;rw [ih] at e1;injection e1 with e3 e4;rw [e2,← e3,← e4]
theorem cut_spaced:∀ ws:List Bytes,ws≠[]→(∀ w∈ws,(32:UInt8) ∉ w)→Jo.cutAt 32 (Jo.spaced ws)=ws
 | [],h,_=>absurd rfl h
 | [w],_,h=>cutAt_last 32 w (h w (by simp))
 | w :: v :: r,_,h=>by
   show Jo.cutAt 32 (w++(32 :: Jo.spaced (v :: r)))=_;rw [cutAt_word 32 _ w (h w (by simp)),cut_spaced (v :: r) (by simp) fun x hx=>h x (by simp [hx])]
theorem spaced_iff {ws:List Bytes} {b:Bytes} (hn:ws≠[]) (h:∀ w∈ws,(32:UInt8) ∉ w):Jo.spaced ws=b↔Jo.cutAt 32 b=ws:=by
 constructor
 · intro e;rw [← e];exact cut_spaced ws hn h
 · intro e;rw [← e];exact spaced_cut b
theorem all_congr' {α:Type} {p q:α→Bool}:∀ {l:List α},(∀ c∈l,p c=q c)→l.all p=l.all q
 | [],_=>rfl
 | a :: r,h=>by rw [List.all_cons,List.all_cons,h a (by simp),all_congr' fun c hc=>h c (by simp [hc])]
theorem name_same (v:Bytes):isName (v.map sgB)=Jo.nameOk v:=by
 unfold isName Jo.nameOk;rw [List.all_map,all_congr' (p:=(fun c=>low c || dig c) ∘ sgB) (fun c _=>sgB_name c),List.length_map]
 cases v with
 | nil=>rfl
 | cons a r =>
   have:decide (1≤(a :: r).length)=true:=decide_eq_true (by simp);rw [this,Bool.true_and,Bool.and_comm];rfl
theorem name_no32 {v:Bytes} (h:Jo.nameOk v=true):(32:UInt8) ∉ v:=fun m=>by
 unfold Jo.nameOk at h;simp only [Bool.and_eq_true,List.all_eq_true] at h;have:=h.2.2 32 m;exact absurd this (by decide)
theorem map_word {v d:Bytes} (hd:∀ x∈d,(low x.toNat || dig x.toNat)=true):v.map sgB=d.map (·.toNat)↔v=d:=by
 constructor
 · intro e
   induction v generalizing d with
   | nil =>
     cases d with
     | nil=>rfl
     | cons a r=>simp at e
   | cons a r ih =>
     cases d with
     | nil=>simp at e
     | cons b s =>
       rw [List.map_cons,List.map_cons] at e;injection e with e1 e2;rw [sgB_inj a b (hd b (by simp)) e1,ih (fun x hx=>hd x (by simp [hx])) e2]
 · rintro rfl;exact List.map_congr_left fun x hx=>sgB_self x (hd x hx)
noncomputable def canB (v:Bytes):Bool:=(!v.isEmpty && v.all dB) && !(decide (v.headD 0=48) && decide (1 < v.length))
theorem can_same (v:Bytes):canon (v.map sgB)=canB v:=by
 unfold canon canB;rw [List.all_map,all_congr' (p:=dig ∘ sgB) (fun c _=>sgB_dig c),List.length_map]
 cases v with
 | nil=>rfl
 | cons a r =>
   have e:decide (((a :: r).map sgB).headD 0=48)=decide ((a :: r).headD 0=48):=by
     show decide (sgB a=48)=decide (a=48)
     have:∀ c:UInt8,(sgB c=48)=(c=48):=u8 (Pr:=fun c=>(sgB c=48)=(c=48)) (fun n=>by
       apply propext;revert n;decide +kernel)
     simp only [this a]
   rw [e];rfl
theorem nat_same:∀ (v:Bytes) (n:Nat),v.all dB=true→(v.map sgB).foldl (fun a c=>a*10+(c - 48)) n=v.foldl (fun (n:Nat) (c:UInt8)=>10*n+(c.toNat - 48)) n
 | [],n,_=>rfl
 | a :: r,n,h=>by
   rw [List.all_cons,Bool.and_eq_true] at h;rw [List.map_cons,List.foldl_cons,List.foldl_cons,dB_self a h.1,nat_same r _ h.2,Nat.mul_comm]
theorem num_same (v:Bytes):num (v.map sgB)=if canB v=true then (if 4 < v.length then 10000 else (Jo.natIn v:Int)) else -1:=by
 unfold num;rw [can_same,List.length_map];by_cases h:canB v=true
 · rw [if_pos h,if_pos h]
   have hd:v.all dB=true:=by
     unfold canB at h;simp only [Bool.and_eq_true] at h;exact h.1.2
   have e:dval (v.map sgB)=Jo.natIn v:=nat_same v 0 hd;rw [e]
 · rw [if_neg h,if_neg h]
theorem natIn_snoc (u:Bytes) (c:UInt8):Jo.natIn (u++[c])=10*Jo.natIn u+(c.toNat - 48):=by
 unfold Jo.natIn;rw [List.foldl_append];rfl
theorem decimal_lt {d:Nat} (h:d < 10):Jo.decimal d=[UInt8.ofNat (48+d)]:=by
 unfold Jo.decimal;rw [Nat.toDigits_of_lt_base h];have:∀ d:Fin 10,[Nat.digitChar d.val].map (fun (c:Char)=>UInt8.ofNat c.toNat)=[UInt8.ofNat (48+d.val)]:=by decide
 exact this ⟨d,h⟩
theorem decimal_snoc {n d:Nat} (hn:0 < n) (hd:d < 10):Jo.decimal (10*n+d)=Jo.decimal n++[UInt8.ofNat (48+d)]:=by
 have t:Nat.toDigits 10 n++Nat.toDigits 10 d=Nat.toDigits 10 (10*n+d):=Nat.toDigits_append_toDigits (by decide) hn hd;rw [← decimal_lt hd];unfold Jo.decimal;rw [← t,List.map_append]
theorem dB_of {d:Nat} (h:d < 10):dB (UInt8.ofNat (48+d))=true∧(UInt8.ofNat (48+d)).toNat=48+d:=by
 have:∀ d:Fin 10,dB (UInt8.ofNat (48+d.val))=true∧(UInt8.ofNat (48+d.val)).toNat=48+d.val:=by decide
 exact this ⟨d,h⟩
theorem dB_is {c:UInt8} (h:dB c=true):c.toNat - 48 < 10∧UInt8.ofNat (48+(c.toNat - 48))=c:=by
 unfold dB at h;simp only [Bool.and_eq_true,decide_eq_true_eq] at h;refine ⟨by omega,?_⟩;rw [show 48+(c.toNat - 48)=c.toNat by omega];exact UInt8.ofNat_toNat
theorem canB_one {x:UInt8} (h:dB x=true):canB [x]=true:=by
 unfold canB;simp [h]
theorem canB_cons {a:UInt8} {r:Bytes} (ha:a≠48) (h:(a :: r).all dB=true):canB (a :: r)=true:=by
 unfold canB;rw [h];simp [ha]
theorem dec_can (n:Nat):canB (Jo.decimal n)=true∧(0 < n→(Jo.decimal n).headD 0≠48):=by
 induction n using Nat.strongRecOn with
 | _ n ih =>
   by_cases h:n < 10
   · rw [decimal_lt h];obtain ⟨h1,h2⟩:=dB_of h;refine ⟨?_,fun hn e=>?_⟩
     · exact canB_one h1
     · have e:UInt8.ofNat (48+n)=48:=e;rw [e] at h2;have:(48:UInt8).toNat=48:=by decide
       omega
   · have hq:0 < n / 10:=by omega
     have hm:n % 10 < 10:=Nat.mod_lt _ (by decide);have e:=decimal_snoc hq hm;rw [Nat.div_add_mod] at e;obtain ⟨i1,i2⟩:=ih (n / 10) (by omega);have i2:=i2 hq;obtain ⟨h1,h2⟩:=dB_of hm;rw [e]
     cases hdec:Jo.decimal (n / 10) with
     | nil =>
       rw [hdec] at i1
       cases i1
     | cons a r =>
       rw [hdec] at i1 i2;unfold canB at i1;simp only [Bool.and_eq_true] at i1;have ha:¬ a=48:=i2;refine ⟨canB_cons ha ?_,fun _=>i2⟩;have hall:(a :: r).all dB=true:=i1.1.2;show ((a :: r)++[_]).all dB=true;rw [List.all_append,hall,List.all_cons,h1];rfl
theorem can_dec:∀ (v:Bytes),canB v=true→Jo.decimal (Jo.natIn v)=v∧(v.headD 0≠48→10 ^ (v.length - 1)≤Jo.natIn v):=by
 intro v
 induction hl:v.length generalizing v with
 | zero =>
   intro h;rw [List.length_eq_zero_iff.mp hl] at h
   cases h
 | succ k ih =>
   intro h;have hne:v≠[]:=fun e=>by rw [e] at hl; cases hl
   obtain ⟨u,c,rfl⟩:∃ u c,v=u++[c]:=⟨v.dropLast,v.getLast hne,(List.dropLast_concat_getLast hne).symm⟩;have hlu:u.length=k:=by rw [List.length_append,List.length_singleton] at hl; omega
   have hall:(u++[c]).all dB=true:=by
     unfold canB at h;simp only [Bool.and_eq_true] at h;exact h.1.2
   have hc:dB c=true:=by
     rw [List.all_append,Bool.and_eq_true] at hall
     simpa using hall.2
   have hu:u.all dB=true:=by
     rw [List.all_append,Bool.and_eq_true] at hall;exact hall.1
   obtain ⟨c1,c2⟩:=dB_is hc;rw [natIn_snoc]
   cases u with
   | nil =>
     have e0:Jo.natIn []=0:=rfl;rw [e0,Nat.mul_zero,Nat.zero_add,decimal_lt c1,c2];refine ⟨rfl,fun hh=>?_⟩;have hk:k=0:=hlu.symm;subst hk;have hh:c≠48:=hh
     have:c.toNat≠48:=fun e=>hh (by
       have:c=UInt8.ofNat c.toNat:=UInt8.ofNat_toNat.symm;rw [this,e];rfl)
     unfold dB at hc;simp only [Bool.and_eq_true,decide_eq_true_eq] at hc;simp
     omega
   | cons a r =>
     have hh:a≠48:=fun e=>by
       unfold canB at h;simp [e] at h
     have hcu:canB (a :: r)=true:=canB_cons hh hu;obtain ⟨i1,i2⟩:=ih (a :: r) hlu hcu;have i2:=i2 hh;have hpos:0 < Jo.natIn (a :: r):=Nat.lt_of_lt_of_le (Nat.pow_pos (by decide)) i2;rw [decimal_snoc hpos c1,i1,c2];refine ⟨rfl,fun _=>?_⟩;rw [Nat.add_sub_cancel]
     have hk:k=k - 1+1:=by
       have:(a :: r).length=r.length+1:=rfl;omega
     rw [hk,Nat.pow_succ];omega
theorem dec_iff (v:Bytes):Jo.decimal (Jo.natIn v)=v↔canB v=true :=
 ⟨fun e=>by rw [← e]; exact (dec_can _).1,fun h=>(can_dec v h).1⟩
theorem can_big {v:Bytes} (h:canB v=true) (hl:4 < v.length):10000≤Jo.natIn v:=by
 have hh:v.headD 0≠48:=fun e=>by
   unfold canB at h;simp only [Bool.and_eq_true,Bool.not_eq_true',Bool.and_eq_false_iff,decide_eq_false_iff_not] at h;rcases h.2 with q | q
   · exact q e
   · omega
 have h1:=(can_dec v h).2 hh;have h2:10 ^ 4≤10 ^ (v.length - 1):=Nat.pow_le_pow_right (by decide) (by omega);omega
theorem dec_no32 (n:Nat):(32:UInt8) ∉ Jo.decimal n:=fun m=>by
 have h:=(dec_can n).1;unfold canB at h;simp only [Bool.and_eq_true,List.all_eq_true] at h;have:=h.1.2 32 m;exact absurd this (by decide)
theorem num_in {v:Bytes} {lo hi:Int} (h0:0≤lo) (h1:hi < 10000):(lo≤num (v.map sgB)∧num (v.map sgB)≤hi)↔canB v=true∧lo≤(Jo.natIn v:Int)∧(Jo.natIn v:Int)≤hi:=by
 rw [num_same];by_cases h:canB v=true
 · rw [if_pos h];by_cases h4:4 < v.length
   · have:=can_big h h4;rw [if_pos h4];constructor
     · rintro ⟨_,q⟩; omega
     · rintro ⟨_,_,q⟩; omega
   · rw [if_neg h4];exact ⟨fun q=>⟨h,q⟩,fun q=>q.2⟩
 · rw [if_neg h];constructor
   · rintro ⟨q,_⟩; omega
   · rintro ⟨q,_⟩; exact absurd q h
theorem num_val {v:Bytes} {lo hi:Int} (h0:0≤lo) (h1:hi < 10000) (h:lo≤num (v.map sgB)∧num (v.map sgB)≤hi):num (v.map sgB)=(Jo.natIn v:Int):=by
 obtain ⟨c,q1,q2⟩:=(num_in h0 h1).mp h;rw [num_same,if_pos c];by_cases h4:4 < v.length
 · have:=can_big c h4;omega
 · rw [if_neg h4]
end Ho
end
section
set_option Elab.async false
set_option linter.all false
namespace Ho
open Jo (Bytes)
noncomputable def aP:Bytes:=[112,97,114,116]
noncomputable def aC:Bytes:=[99,117,116]
noncomputable def aU:Bytes:=[112,117,116]
theorem aP_eq:Jo.ascii "part" = aP:=by decide
theorem aC_eq:Jo.ascii "cut" = aC:=by decide
theorem aU_eq:Jo.ascii "put" = aU:=by decide
theorem G_eq:Jo.GRAINS=[[120],[121],[122]]:=by decide
noncomputable def CP1 (r1 r2 r3 r4 r5:Bytes):Prop:=Jo.nameOk r1=true∧(canB r2=true∧1≤Jo.natIn r2∧Jo.natIn r2≤16)∧(canB r3=true∧1≤Jo.natIn r3∧Jo.natIn r3≤16)∧(canB r4=true∧1≤Jo.natIn r4∧Jo.natIn r4≤16)∧(r5=[120]∨r5=[121]∨r5=[122])
theorem within_iff {lo hi n:Nat}:Jo.within lo hi n=true↔lo≤n∧n≤hi:=by
 unfold Jo.within;simp
theorem noPut {b:Bytes} {w:Bytes} {l:List Bytes} (e:Jo.cutAt 32 b=w :: l) (h:w≠aU):Jo.workLineIn b=(Jo.lineIn b).map .own:=by
 unfold Jo.workLineIn;simp only [e,List.headD_cons];rw [if_neg (by rw [aU_eq]; exact h)]
theorem other_line {b:Bytes} {w:Bytes} {l:List Bytes} (e:Jo.cutAt 32 b=w :: l) (h1:w≠aP) (h2:w≠aC) (h3:w≠aU):Jo.workLineIn b=none:=by
 rw [noPut e h3]
 have:Jo.lineMaybe b=none:=by
   unfold Jo.lineMaybe;simp only [e,List.headD_cons];rw [if_neg (by rw [aP_eq]; exact h1),if_neg (by rw [aC_eq]; exact h2)]
 unfold Jo.lineIn;rw [this];rfl
theorem grain_ix {r5:Bytes} {g:Nat} (h:(Jo.GRAINS.findIdx? fun (x:Bytes)=>x == r5)=some g):g≤2∧Jo.GRAINS.getD g []=r5∧(r5=[120]∨r5=[121]∨r5=[122]):=by
 rw [G_eq] at h ⊢;simp only [List.findIdx?_cons,List.findIdx?_nil] at h;by_cases h0:([120]:Bytes) == r5
 · rw [if_pos h0] at h;have e:=Option.some.inj h;subst e;have:=eq_of_beq h0;exact ⟨by decide,this,.inl this.symm⟩
 rw [if_neg h0] at h;by_cases h1:([121]:Bytes) == r5
 · rw [if_pos h1] at h;have e:0+1=g:=Option.some.inj h;subst e;have:=eq_of_beq h1;exact ⟨by decide,this,.inr (.inl this.symm)⟩
 rw [if_neg h1] at h;by_cases h2:([122]:Bytes) == r5
 · rw [if_pos h2] at h;have e:0+1+1=g:=Option.some.inj h;subst e;have:=eq_of_beq h2;exact ⟨by decide,this,.inr (.inr this.symm)⟩
 rw [if_neg h2] at h;cases h
theorem grain_some {r5:Bytes} (h:r5=[120]∨r5=[121]∨r5=[122]):∃ g,(Jo.GRAINS.findIdx? fun (x:Bytes)=>x == r5)=some g:=by
 rcases h with rfl | rfl | rfl
 · exact ⟨0,by decide⟩
 · exact ⟨1,by decide⟩
 · exact ⟨2,by decide⟩
theorem words_part {r1 g5:Bytes} {a b c:Nat} (hn:Jo.nameOk r1=true) (hg:g5=[120]∨g5=[121]∨g5=[122]):∀ w∈[aP,r1,Jo.decimal a,Jo.decimal b,Jo.decimal c,g5],(32:UInt8) ∉ w:=by
 intro w hw;simp only [List.mem_cons,List.not_mem_nil,or_false] at hw;rcases hw with rfl | rfl | rfl | rfl | rfl | rfl
 · decide
 · exact name_no32 hn
 · exact dec_no32 _
 · exact dec_no32 _
 · exact dec_no32 _
 · rcases hg with rfl | rfl | rfl <;> decide
theorem part_form {b:Bytes} {l:List Bytes} (e:Jo.cutAt 32 b=aP :: l):Jo.workLineIn b=none∨∃ r1 r2 r3 r4 r5 g,l=[r1,r2,r3,r4,r5]∧CP1 r1 r2 r3 r4 r5∧Jo.workLineIn b=some (.own (.part r1 (Jo.natIn r2) (Jo.natIn r3) (Jo.natIn r4) g)):=by
 rw [noPut e (by decide)]
 cases hI:Jo.lineIn b with
 | none=>exact .inl rfl
 | some x =>
   refine .inr ?_;unfold Jo.lineIn Jo.lineMaybe at hI;simp only [e,List.headD_cons] at hI;rw [if_pos (by rw [aP_eq])] at hI
   cases hg:(Jo.GRAINS.findIdx? fun (g:Bytes)=>g == (aP :: l).getD 5 []) with
   | none =>
     rw [hg] at hI
     cases hI
   | some g =>
     rw [hg] at hI;obtain ⟨hg1,hg2,hg3⟩:=grain_ix hg;have hI:(if (Jo.Line.part ((aP :: l).getD 1 []) (Jo.natIn ((aP :: l).getD 2 [])) (Jo.natIn ((aP :: l).getD 3 [])) (Jo.natIn ((aP :: l).getD 4 [])) g).ok=true∧(Jo.Line.part ((aP :: l).getD 1 []) (Jo.natIn ((aP :: l).getD 2 [])) (Jo.natIn ((aP :: l).getD 3 [])) (Jo.natIn ((aP :: l).getD 4 [])) g).text=b then some (Jo.Line.part ((aP :: l).getD 1 []) (Jo.natIn ((aP :: l).getD 2 [])) (Jo.natIn ((aP :: l).getD 3 [])) (Jo.natIn ((aP :: l).getD 4 [])) g) else none)=some x:=hI;split at hI
     · rename_i hc
       have ex:=Option.some.inj hI;subst ex;obtain ⟨h1,h2⟩:=hc;unfold Jo.Line.ok at h1;simp only [Bool.and_eq_true,within_iff,decide_eq_true_eq] at h1;obtain ⟨n1,w2,w3,w4,_⟩:=h1;have h2:Jo.spaced [Jo.ascii "part",(aP :: l).getD 1 [],Jo.decimal (Jo.natIn ((aP :: l).getD 2 [])),Jo.decimal (Jo.natIn ((aP :: l).getD 3 [])),Jo.decimal (Jo.natIn ((aP :: l).getD 4 [])),Jo.GRAINS.getD g []]=b:=h2;rw [aP_eq,hg2] at h2;have h3:=(spaced_iff (by simp) (words_part n1 hg3)).mp h2;rw [e] at h3;injection h3 with _ h4;obtain ⟨r1,r2,r3,r4,r5,rfl⟩:∃ a b c d f,l=[a,b,c,d,f]:=⟨_,_,_,_,_,h4⟩;simp only [List.getD_cons_succ,List.getD_cons_zero] at h4 n1 w2 w3 w4 hg3 ⊢;injection h4 with _ h5;injection h5 with q2 h6;injection h6 with q3 h7;injection h7 with q4 _;exact ⟨r1,r2,r3,r4,r5,g,rfl,⟨n1,⟨(dec_iff r2).mp q2.symm,w2⟩,⟨(dec_iff r3).mp q3.symm,w3⟩,⟨(dec_iff r4).mp q4.symm,w4⟩,hg3⟩,rfl⟩
     · cases hI
theorem part_back {b r1 r2 r3 r4 r5:Bytes} (e:Jo.cutAt 32 b=[aP,r1,r2,r3,r4,r5]) (h:CP1 r1 r2 r3 r4 r5):Jo.workLineIn b≠none:=by
 rw [noPut e (by decide)];obtain ⟨n1,⟨c2,w2⟩,⟨c3,w3⟩,⟨c4,w4⟩,hg⟩:=h;obtain ⟨g,hgs⟩:=grain_some hg;obtain ⟨hg1,hg2,_⟩:=grain_ix hgs
 have:Jo.lineIn b=some (.part r1 (Jo.natIn r2) (Jo.natIn r3) (Jo.natIn r4) g):=by
   unfold Jo.lineIn Jo.lineMaybe;simp only [e,List.headD_cons,List.getD_cons_succ,List.getD_cons_zero];rw [if_pos aP_eq.symm,hgs];show (if _ then _ else _)=_;rw [if_pos];refine ⟨?_,?_⟩
   · unfold Jo.Line.ok;simp only [Bool.and_eq_true,within_iff,decide_eq_true_eq];exact ⟨n1,w2,w3,w4,hg1⟩
   · show Jo.spaced [Jo.ascii "part",r1,Jo.decimal (Jo.natIn r2),Jo.decimal (Jo.natIn r3),Jo.decimal (Jo.natIn r4),Jo.GRAINS.getD g []]=b;rw [aP_eq,hg2];refine (spaced_iff (by simp) (words_part n1 hg)).mpr ?_;rw [e,(dec_iff r2).mpr c2,(dec_iff r3).mpr c3,(dec_iff r4).mpr c4]
 rw [this];simp
noncomputable def CC1 (r1 r2 r3 r4 r5 r6:Bytes):Prop:=canB r1=true∧canB r2=true∧canB r3=true∧(canB r4=true∧1≤Jo.natIn r4∧Jo.natIn r4≤16)∧(canB r5=true∧1≤Jo.natIn r5∧Jo.natIn r5≤16)∧(canB r6=true∧1≤Jo.natIn r6∧Jo.natIn r6≤16)
theorem words_cut {a b c d e f:Nat}:∀ w∈[aC,Jo.decimal a,Jo.decimal b,Jo.decimal c,Jo.decimal d,Jo.decimal e,Jo.decimal f],(32:UInt8) ∉ w:=by
 intro w hw;simp only [List.mem_cons,List.not_mem_nil,or_false] at hw;rcases hw with rfl | rfl | rfl | rfl | rfl | rfl | rfl
 · decide
 all_goals exact dec_no32 _
theorem cut_form {b:Bytes} {l:List Bytes} (e:Jo.cutAt 32 b=aC :: l):Jo.workLineIn b=none∨∃ r1 r2 r3 r4 r5 r6,l=[r1,r2,r3,r4,r5,r6]∧CC1 r1 r2 r3 r4 r5 r6∧Jo.workLineIn b=some (.own (.cut ⟨Jo.natIn r1,Jo.natIn r2,Jo.natIn r3,Jo.natIn r4,Jo.natIn r5,Jo.natIn r6⟩)):=by
 rw [noPut e (by decide)]
 cases hI:Jo.lineIn b with
 | none=>exact .inl rfl
 | some x =>
   refine .inr ?_;unfold Jo.lineIn Jo.lineMaybe at hI;simp only [e,List.headD_cons] at hI;rw [if_neg (by rw [aP_eq]; decide),if_pos aC_eq.symm] at hI;have hI:(if _ then _ else _)=some x:=hI;split at hI
   · rename_i hc
     have ex:=Option.some.inj hI;subst ex;obtain ⟨h1,h2⟩:=hc;unfold Jo.Line.ok at h1;simp only [Bool.and_eq_true,within_iff] at h1;obtain ⟨w4,w5,w6⟩:=h1;have h2:Jo.spaced [Jo.ascii "cut",Jo.decimal (Jo.natIn ((aC :: l).getD 1 [])),Jo.decimal (Jo.natIn ((aC :: l).getD 2 [])),Jo.decimal (Jo.natIn ((aC :: l).getD 3 [])),Jo.decimal (Jo.natIn ((aC :: l).getD 4 [])),Jo.decimal (Jo.natIn ((aC :: l).getD 5 [])),Jo.decimal (Jo.natIn ((aC :: l).getD 6 []))]=b:=h2;rw [aC_eq] at h2;have h3:=(spaced_iff (by simp) words_cut).mp h2;rw [e] at h3;injection h3 with _ h4;obtain ⟨r1,r2,r3,r4,r5,r6,rfl⟩:∃ a b c d f g,l=[a,b,c,d,f,g]:=⟨_,_,_,_,_,_,h4⟩;simp only [List.getD_cons_succ,List.getD_cons_zero] at h4 w4 w5 w6 ⊢;injection h4 with q1 h5;injection h5 with q2 h6;injection h6 with q3 h7;injection h7 with q4 h8;injection h8 with q5 h9;injection h9 with q6 _;exact ⟨r1,r2,r3,r4,r5,r6,rfl,⟨(dec_iff r1).mp q1.symm,(dec_iff r2).mp q2.symm,(dec_iff r3).mp q3.symm,⟨(dec_iff r4).mp q4.symm,w4⟩,⟨(dec_iff r5).mp q5.symm,w5⟩,⟨(dec_iff r6).mp q6.symm,w6⟩⟩,rfl⟩
   · cases hI
theorem cut_back {b r1 r2 r3 r4 r5 r6:Bytes} (e:Jo.cutAt 32 b=[aC,r1,r2,r3,r4,r5,r6]) (h:CC1 r1 r2 r3 r4 r5 r6):Jo.workLineIn b≠none:=by
 rw [noPut e (by decide)];obtain ⟨c1,c2,c3,⟨c4,w4⟩,⟨c5,w5⟩,c6,w6⟩:=h
 have:Jo.lineIn b=some (.cut ⟨Jo.natIn r1,Jo.natIn r2,Jo.natIn r3,Jo.natIn r4,Jo.natIn r5,Jo.natIn r6⟩):=by
   unfold Jo.lineIn Jo.lineMaybe;simp only [e,List.headD_cons,List.getD_cons_succ,List.getD_cons_zero];rw [if_neg (by rw [aP_eq]; decide),if_pos aC_eq.symm];show (if _ then _ else _)=_;rw [if_pos];refine ⟨?_,?_⟩
   · unfold Jo.Line.ok;simp only [Bool.and_eq_true,within_iff];exact ⟨w4,w5,w6⟩
   · show Jo.spaced [Jo.ascii "cut",Jo.decimal (Jo.natIn r1),Jo.decimal (Jo.natIn r2),Jo.decimal (Jo.natIn r3),Jo.decimal (Jo.natIn r4),Jo.decimal (Jo.natIn r5),Jo.decimal (Jo.natIn r6)]=b;rw [aC_eq];refine (spaced_iff (by simp) words_cut).mpr ?_;rw [e,(dec_iff r1).mpr c1,(dec_iff r2).mpr c2,(dec_iff r3).mpr c3,(dec_iff r4).mpr c4,(dec_iff r5).mpr c5,(dec_iff r6).mpr c6]
 rw [this];simp
noncomputable def CU1 (r1 r2 r3 r4 r5:Bytes):Prop:=Jo.nameOk r1=true∧(∃ c d,r2=[c,d]∧Jo.WAYS.idxOf c < 6∧Jo.WAYS.idxOf d < 6∧Jo.WAYS.idxOf c / 2≠Jo.WAYS.idxOf d / 2)∧(canB r3=true∧Jo.natIn r3≤48)∧(canB r4=true∧Jo.natIn r4≤48)∧(canB r5=true∧Jo.natIn r5≤48)
theorem way32:∀ n:Fin 6,Jo.WAYS.getD n.val 0≠32:=by decide
theorem words_put {r1:Bytes} {p q a b c:Nat} (hn:Jo.nameOk r1=true) (hp:p < 6) (hq:q < 6):∀ w∈[aU,r1,[Jo.WAYS.getD p 0,Jo.WAYS.getD q 0],Jo.decimal a,Jo.decimal b,Jo.decimal c],(32:UInt8) ∉ w:=by
 intro w hw;simp only [List.mem_cons,List.not_mem_nil,or_false] at hw;rcases hw with rfl | rfl | rfl | rfl | rfl | rfl
 · decide
 · exact name_no32 hn
 · intro m;simp only [List.mem_cons,List.not_mem_nil,or_false] at m;rcases m with m | m
   · exact way32 ⟨p,hp⟩ m.symm
   · exact way32 ⟨q,hq⟩ m.symm
 all_goals exact dec_no32 _
theorem across_iff {a b:Nat}:Jo.across a b=true↔a≤5∧b≤5∧a / 2≠b / 2:=by
 unfold Jo.across;simp
theorem way_ix:∀ n:Fin 6,Jo.WAYS.idxOf (Jo.WAYS.getD n.val 0)=n.val:=by decide
theorem put_form {b:Bytes} {l:List Bytes} (e:Jo.cutAt 32 b=aU :: l):Jo.workLineIn b=none∨∃ r1 c d r3 r4 r5,l=[r1,[c,d],r3,r4,r5]∧CU1 r1 [c,d] r3 r4 r5∧Jo.workLineIn b=some (.put r1 (Jo.WAYS.idxOf c) (Jo.WAYS.idxOf d) (Jo.natIn r3) (Jo.natIn r4) (Jo.natIn r5)):=by
 cases hI:Jo.workLineIn b with
 | none=>exact .inl rfl
 | some x =>
   refine .inr ?_;unfold Jo.workLineIn at hI;simp only [e,List.headD_cons] at hI;rw [if_pos aU_eq.symm] at hI;split at hI
   · rename_i hc
     have ex:=Option.some.inj hI;subst ex;obtain ⟨h1,h2⟩:=hc;unfold Jo.WorkLine.ok at h1;simp only [Bool.and_eq_true,across_iff,decide_eq_true_eq] at h1;obtain ⟨n1,⟨a1,a2,a3⟩,w3,w4,w5⟩:=h1;generalize hp:(((aU :: l).getD 2 []).map fun (c:UInt8)=>Jo.WAYS.idxOf c).getD 0 9=p at *;generalize hq:(((aU :: l).getD 2 []).map fun (c:UInt8)=>Jo.WAYS.idxOf c).getD 1 9=q at *;have h2:Jo.spaced [Jo.ascii "put",(aU :: l).getD 1 [],[Jo.WAYS.getD p 0,Jo.WAYS.getD q 0],Jo.decimal (Jo.natIn ((aU :: l).getD 3 [])),Jo.decimal (Jo.natIn ((aU :: l).getD 4 [])),Jo.decimal (Jo.natIn ((aU :: l).getD 5 []))]=b:=h2;rw [aU_eq] at h2;have h3:=(spaced_iff (by simp) (words_put n1 (by omega) (by omega))).mp h2;rw [e] at h3;injection h3 with _ h4;obtain ⟨r1,r2,r3,r4,r5,rfl⟩:∃ a b c d f,l=[a,b,c,d,f]:=⟨_,_,_,_,_,h4⟩;simp only [List.getD_cons_succ,List.getD_cons_zero] at h4 n1 w3 w4 w5 hp hq ⊢;injection h4 with _ h5;injection h5 with q2 h6;injection h6 with q3 h7;injection h7 with q4 h8;injection h8 with q5 _;have ep:Jo.WAYS.idxOf (Jo.WAYS.getD p 0)=p:=way_ix ⟨p,by omega⟩;have eq:Jo.WAYS.idxOf (Jo.WAYS.getD q 0)=q:=way_ix ⟨q,by omega⟩;refine ⟨r1,Jo.WAYS.getD p 0,Jo.WAYS.getD q 0,r3,r4,r5,by rw [q2],⟨n1,⟨_,_,rfl,by rw [ep]; omega,by rw [eq]; omega,by rw [ep,eq]; exact a3⟩,⟨(dec_iff r3).mp q3.symm,w3⟩,⟨(dec_iff r4).mp q4.symm,w4⟩,⟨(dec_iff r5).mp q5.symm,w5⟩⟩,?_⟩;rw [ep,eq]
   · cases hI
theorem put_back {b r1 r2 r3 r4 r5:Bytes} (e:Jo.cutAt 32 b=[aU,r1,r2,r3,r4,r5]) (h:CU1 r1 r2 r3 r4 r5):Jo.workLineIn b≠none:=by
 obtain ⟨n1,⟨c,d,rfl,i1,i2,i3⟩,⟨c3,w3⟩,⟨c4,w4⟩,c5,w5⟩:=h;unfold Jo.workLineIn;simp only [e,List.headD_cons,List.getD_cons_succ,List.getD_cons_zero,List.map_cons,List.map_nil];rw [if_pos aU_eq.symm,if_pos]
 · simp
 refine ⟨?_,?_⟩
 · unfold Jo.WorkLine.ok;simp only [Bool.and_eq_true,across_iff,decide_eq_true_eq];exact ⟨n1,⟨by omega,by omega,i3⟩,w3,w4,w5⟩
 · show Jo.spaced [Jo.ascii "put",r1,[Jo.WAYS.getD (Jo.WAYS.idxOf c) 0,Jo.WAYS.getD (Jo.WAYS.idxOf d) 0],Jo.decimal (Jo.natIn r3),Jo.decimal (Jo.natIn r4),Jo.decimal (Jo.natIn r5)]=b;rw [aU_eq];refine (spaced_iff (by simp) (words_put n1 i1 i2)).mpr ?_;rw [e,way_back c i1,way_back d i2,(dec_iff r3).mpr c3,(dec_iff r4).mpr c4,(dec_iff r5).mpr c5]
end Ho
end
section
set_option Elab.async false
set_option linter.all false
namespace Ho
open Jo (Bytes)
noncomputable abbrev nmC (v:Bytes):Cs:=v.map (·.toNat)
noncomputable def rowsOf (w d h:Nat) (cuts:List Jo.Box):List Nat:=cuts.foldl (fun R b=>cutAway d R b.x b.y b.z b.w b.d b.h) (List.replicate (d*h) (2 ^ w - 1))
noncomputable def toP (p:Jo.Part):Cs × MPart:=(nmC p.name,⟨p.w,p.d,p.h,p.cuts.length,rowsOf p.w p.d p.h p.cuts⟩)
noncomputable def toU (u:Jo.Put):MPut:=⟨u.part,[(u.right:Int),(u.back:Int),(Jo.upOf u.right u.back:Nat)],[(u.x:Int),(u.y:Int),(u.z:Int)]⟩
noncomputable def toM (w:Jo.Work):MW:=⟨w.parts.map toP,w.puts.map toU⟩
noncomputable def wrongW (w:Jo.Work) (x:Jo.WorkLine):Nat:=match x with
 | .own (.part n _ _ _ _)=>if w.puts≠[] then 3 else if (w.parts.any fun (p:Jo.Part)=>p.name == n)=true then 4 else if Jo.WORKS≤w.parts.length then 2 else 0
 | .own (.cut e)=>(match w.parts.getLast? with
   | some p=>if w.puts≠[] then 3 else if p.w < e.x+e.w∨p.d < e.y+e.d∨p.h < e.z+e.h then 4 else if Jo.CUTS≤p.cuts.length then 2 else 0
   | none=>3)
 | .put n _ _ _ _ _=>if w.parts=[] then 3 else if (w.parts.any fun (p:Jo.Part)=>p.name == n)=false then 4 else if Jo.WORKS≤w.puts.length then 2 else 0
theorem wrong_eq (l:List Jo.WorkLine) (x:Jo.WorkLine):Jo.wrongLine l x=wrongW (Jo.workOf l) x:=by
 unfold Jo.wrongLine wrongW;rfl
noncomputable def addW (w:Jo.Work) (x:Jo.WorkLine):Jo.Work:=Jo.readLines [x] w
theorem readLines_app:∀ (l:List Jo.WorkLine) (x:Jo.WorkLine) (w:Jo.Work),Jo.readLines (l++[x]) w=addW (Jo.readLines l w) x
 | [],x,w=>rfl
 | y :: l,x,w=>by
   cases y with
   | own z =>
     cases z with
     | part n a b c g=>exact readLines_app l x _
     | cut e=>exact readLines_app l x _
   | put n a b c d e=>exact readLines_app l x _
theorem workOf_snoc (l:List Jo.WorkLine) (x:Jo.WorkLine):Jo.workOf (l++[x])=addW (Jo.workOf l) x:=readLines_app l x _
theorem nmC_inj {a b:Bytes} (h:nmC a=nmC b):a=b:=by
 induction a generalizing b with
 | nil =>
   cases b with
   | nil=>rfl
   | cons x r=>simp at h
 | cons y a ih =>
   cases b with
   | nil=>simp at h
   | cons x r =>
     rw [nmC,nmC,List.map_cons,List.map_cons] at h;injection h with h1 h2;rw [UInt8.toNat_inj.mp h1,ih h2]
theorem nm_beq (a b:Bytes):(nmC a == nmC b)=(a == b):=by
 rw [Bool.eq_iff_iff,beq_iff_eq,beq_iff_eq];exact ⟨nmC_inj,fun e=>by rw [e]⟩
theorem name_map {v:Bytes} (h:Jo.nameOk v=true):v.map sgB=nmC v:=by
 refine List.map_congr_left fun x hx=>sgB_self x ?_;unfold Jo.nameOk at h;simp only [Bool.and_eq_true,List.all_eq_true] at h;have h1:=h.2.2 x hx;have h2:=sgB_name x;rw [h1] at h2;have:∀ c:UInt8,(low (sgB c) || dig (sgB c))=true→(low c.toNat || dig c.toNat)=true:=u8 (by decide +kernel);exact this x h2
theorem knows_same (w:Jo.Work) (n:Bytes):(toM w).knows (nmC n)=w.parts.any fun (p:Jo.Part)=>p.name == n:=by
 unfold MW.knows toM;show (w.parts.map toP).any _=_;rw [List.any_map];congr 1;funext p;exact nm_beq p.name n
theorem idx_same (w:Jo.Work) (n:Bytes):(toM w).idx (nmC n)=w.parts.findIdx fun (p:Jo.Part)=>p.name == n:=by
 unfold MW.idx toM;show (w.parts.map toP).findIdx _=_;rw [List.findIdx_map];congr 1;funext p;exact nm_beq p.name n
theorem toM_add (w:Jo.Work) (n:Bytes) (a b c g:Nat):toM (addW w (.own (.part n a b c g))) = { toM w with parts:=(toM w).parts++[(nmC n,newPart [(a:Int),(b:Int),(c:Int)])] }:=by
 unfold addW Jo.readLines Jo.readLines toM;simp only [List.map_append,List.map_cons,List.map_nil];rfl
theorem rowsOf_snoc (w d h:Nat) (l:List Jo.Box) (e:Jo.Box):rowsOf w d h (l++[e])=cutAway d (rowsOf w d h l) e.x e.y e.z e.w e.d e.h:=by
 unfold rowsOf;rw [List.foldl_append];rfl
theorem toM_cut (w:Jo.Work) (e:Jo.Box) {p:Jo.Part} (hp:w.parts.getLast? = some p):toM (addW w (.own (.cut e))) = { toM w with parts:=(toM w).parts.dropLast++[((toP p).1,(toP p).2.cut [(e.x:Int),(e.y:Int),(e.z:Int)] [(e.w:Int),(e.d:Int),(e.h:Int)])] }:=by
 unfold addW Jo.readLines Jo.readLines toM;simp only [hp,Option.getD_some,List.map_append,List.map_cons,List.map_nil,List.map_dropLast];congr 3;show (nmC p.name,_)=(nmC p.name,_);congr 1;show MPart.mk p.w p.d p.h (p.cuts++[e]).length (rowsOf p.w p.d p.h (p.cuts++[e]))=_;rw [rowsOf_snoc,List.length_append];rfl
theorem toM_put (w:Jo.Work) (n:Bytes) (r b x y z:Nat):toM (addW w (.put n r b x y z)) = { toM w with puts:=(toM w).puts++[⟨(toM w).idx (nmC n),[(r:Int),(b:Int),(Jo.upOf r b:Nat)],[(x:Int),(y:Int),(z:Int)]⟩] }:=by
 rw [idx_same];unfold addW Jo.readLines Jo.readLines toM;simp only [List.map_append,List.map_cons,List.map_nil];rfl
noncomputable def stepW (w:Jo.Work):Option Jo.WorkLine→Int × MW
 | none=>(1,toM w)
 | some x=>((wrongW w x:Int),if wrongW w x=0 then toM (addW w x) else toM w)
theorem stepW_of {w:Jo.Work} {x:Jo.WorkLine} {n:Nat} (h:wrongW w x=n):stepW w (some x)=((n:Int),if n=0 then toM (addW w x) else toM w):=by
 subst h;rfl
theorem puts_nil (w:Jo.Work):(toM w).puts≠[]↔w.puts≠[]:=by
 unfold toM;simp
theorem parts_nil (w:Jo.Work):(toM w).parts=[]↔w.parts=[]:=by
 unfold toM;simp
theorem isGrain_same (v:Bytes):isGrain (v.map sgB)=true↔v=[120]∨v=[121]∨v=[122]:=by
 unfold isGrain;simp only [Bool.or_eq_true,beq_iff_eq];have h1:v.map sgB=[120]↔v=[120]:=map_word (d:=[120]) (by decide);have h2:v.map sgB=[121]↔v=[121]:=map_word (d:=[121]) (by decide);have h3:v.map sgB=[122]↔v=[122]:=map_word (d:=[122]) (by decide);rw [h1,h2,h3,or_assoc]
theorem allIn_iff {lo hi a b c:Int}:allIn lo hi [a,b,c]=true↔(lo≤a∧a≤hi)∧(lo≤b∧b≤hi)∧(lo≤c∧c≤hi):=by
 unfold allIn;simp
theorem step_part (w:Jo.Work) (W:(toM w).Wf) {b:Bytes} {l:List Bytes} (e:Jo.cutAt 32 b=aP :: l):readPart (toM w) ((aP :: l).map (·.map sgB))=stepW w (Jo.workLineIn b):=by
 unfold readPart;rcases part_form e with h | ⟨r1,r2,r3,r4,r5,g,rfl,C,h⟩
 · rw [h,if_pos]
   · rfl
   · refine Classical.byContradiction fun hn=>?_;simp only [not_or,Classical.not_not,Bool.not_eq_false] at hn;obtain ⟨hl,q1,q2,q3⟩:=hn;rw [List.length_map] at hl;obtain ⟨r1,r2,r3,r4,r5,rfl⟩:=six hl;have q1:isName (r1.map sgB)=true:=q1;have q2:allIn 1 16 [num (r2.map sgB),num (r3.map sgB),num (r4.map sgB)]=true:=q2;have q3:isGrain (r5.map sgB)=true:=q3;rw [name_same] at q1;rw [allIn_iff] at q2;obtain ⟨p2,p3,p4⟩:=q2;have p2:=(num_in (by decide) (by decide)).mp p2;have p3:=(num_in (by decide) (by decide)).mp p3;have p4:=(num_in (by decide) (by decide)).mp p4;refine part_back e ⟨q1,⟨p2.1,by omega,by omega⟩,⟨p3.1,by omega,by omega⟩,⟨p4.1,by omega,by omega⟩,(isGrain_same r5).mp q3⟩ h
 · obtain ⟨n1,⟨c2,w2,w2'⟩,⟨c3,w3,w3'⟩,⟨c4,w4,w4'⟩,hg⟩:=C;have p2:1≤num (r2.map sgB)∧num (r2.map sgB)≤16:=(num_in (by decide) (by decide)).mpr ⟨c2,by omega,by omega⟩;have p3:1≤num (r3.map sgB)∧num (r3.map sgB)≤16:=(num_in (by decide) (by decide)).mpr ⟨c3,by omega,by omega⟩;have p4:1≤num (r4.map sgB)∧num (r4.map sgB)≤16:=(num_in (by decide) (by decide)).mpr ⟨c4,by omega,by omega⟩;have v2:=num_val (by decide) (by decide) p2;have v3:=num_val (by decide) (by decide) p3;have v4:=num_val (by decide) (by decide) p4
   have eN:nums ([aP,r1,r2,r3,r4,r5].map (·.map sgB)) 2=[(Jo.natIn r2:Int),(Jo.natIn r3:Int),(Jo.natIn r4:Int)]:=by
     show [num (r2.map sgB),num (r3.map sgB),num (r4.map sgB)]=_;rw [v2,v3,v4]
   have e1:at_ ([aP,r1,r2,r3,r4,r5].map (·.map sgB)) 1=nmC r1:=name_map n1;have e5:at_ ([aP,r1,r2,r3,r4,r5].map (·.map sgB)) 5=r5.map sgB:=rfl;rw [if_neg,h]
   · rw [eN,e1];have eW:wrongW w (.own (.part r1 (Jo.natIn r2) (Jo.natIn r3) (Jo.natIn r4) g))=if w.puts≠[] then 3 else if (w.parts.any fun (p:Jo.Part)=>p.name == r1)=true then 4 else if Jo.WORKS≤w.parts.length then 2 else 0:=rfl;have hlen:(toM w).parts.length=w.parts.length:=by unfold toM; simp
     by_cases hp:w.puts=[];rotate_left
     · rw [if_pos ((puts_nil w).mpr hp)];rw [if_pos hp] at eW;rw [stepW_of eW];rfl
     rw [if_neg (fun z=>(puts_nil w).mp z hp)];rw [if_neg (fun z=>z hp)] at eW;rw [knows_same];by_cases hk:(w.parts.any fun (p:Jo.Part)=>p.name == r1)=true
     · rw [if_pos hk];rw [if_pos hk] at eW;rw [stepW_of eW];rfl
     rw [if_neg hk,hlen];rw [if_neg hk] at eW;have hnp:=W.np;rw [hlen] at hnp;by_cases h32:w.parts.length=32
     · rw [if_pos h32];rw [if_pos (show Jo.WORKS≤w.parts.length by rw [h32]; decide)] at eW;rw [stepW_of eW];rfl
     · rw [if_neg h32];rw [if_neg (show ¬ Jo.WORKS≤w.parts.length by unfold Jo.WORKS; omega)] at eW;rw [stepW_of eW,if_pos rfl,toM_add];rfl
   · rw [eN,e1,e5];rintro (q | q | q | q)
     · exact q rfl
     · rw [← name_map n1,name_same,n1] at q;cases q
     · rw [allIn_iff.mpr ⟨⟨by omega,by omega⟩,⟨by omega,by omega⟩,by omega,by omega⟩] at q;cases q
     · rw [(isGrain_same r5).mpr hg] at q;cases q
theorem step_cut (w:Jo.Work) (W:(toM w).Wf) {b:Bytes} {l:List Bytes} (e:Jo.cutAt 32 b=aC :: l):readCut (toM w) ((aC :: l).map (·.map sgB))=stepW w (Jo.workLineIn b):=by
 unfold readCut
 have nge:∀ v:Bytes,num (v.map sgB)≠-1↔canB v=true:=fun v=>by
   rw [num_same];by_cases h:canB v=true
   · rw [if_pos h];split <;> simp [h] <;> omega
   · rw [if_neg h];simp [h]
 rcases cut_form e with h | ⟨r1,r2,r3,r4,r5,r6,rfl,C,h⟩
 · rw [h,if_pos]
   · rfl
   · refine Classical.byContradiction fun hn=>?_;simp only [not_or,Classical.not_not,Bool.not_eq_false,Bool.not_eq_true] at hn;obtain ⟨hl,q1,q2⟩:=hn;rw [List.length_map] at hl;obtain ⟨r1,r2,r3,r4,r5,r6,rfl⟩:=seven hl;have q1:[num (r1.map sgB),num (r2.map sgB),num (r3.map sgB)].contains (-1)=false:=q1;have q2:allIn 1 16 [num (r4.map sgB),num (r5.map sgB),num (r6.map sgB)]=true:=q2;simp only [List.contains_cons,List.contains_nil,Bool.or_false,Bool.or_eq_false_iff,beq_eq_false_iff_ne] at q1;obtain ⟨n1,n2,n3⟩:=q1;rw [allIn_iff] at q2;obtain ⟨p2,p3,p4⟩:=q2;have p2:=(num_in (by decide) (by decide)).mp p2;have p3:=(num_in (by decide) (by decide)).mp p3;have p4:=(num_in (by decide) (by decide)).mp p4;exact cut_back e ⟨(nge _).mp (Ne.symm n1),(nge _).mp (Ne.symm n2),(nge _).mp (Ne.symm n3),⟨p2.1,by omega,by omega⟩,⟨p3.1,by omega,by omega⟩,⟨p4.1,by omega,by omega⟩⟩ h
 · obtain ⟨c1,c2,c3,⟨c4,w4,w4'⟩,⟨c5,w5,w5'⟩,c6,w6,w6'⟩:=C;have p4:1≤num (r4.map sgB)∧num (r4.map sgB)≤16:=(num_in (by decide) (by decide)).mpr ⟨c4,by omega,by omega⟩;have p5:1≤num (r5.map sgB)∧num (r5.map sgB)≤16:=(num_in (by decide) (by decide)).mpr ⟨c5,by omega,by omega⟩;have p6:1≤num (r6.map sgB)∧num (r6.map sgB)≤16:=(num_in (by decide) (by decide)).mpr ⟨c6,by omega,by omega⟩;have v4:=num_val (by decide) (by decide) p4;have v5:=num_val (by decide) (by decide) p5;have v6:=num_val (by decide) (by decide) p6
   have eN:nums ([aC,r1,r2,r3,r4,r5,r6].map (·.map sgB)) 4=[(Jo.natIn r4:Int),(Jo.natIn r5:Int),(Jo.natIn r6:Int)]:=by
     show [num (r4.map sgB),num (r5.map sgB),num (r6.map sgB)]=_;rw [v4,v5,v6]
   have eC:nums ([aC,r1,r2,r3,r4,r5,r6].map (·.map sgB)) 1=[num (r1.map sgB),num (r2.map sgB),num (r3.map sgB)]:=rfl
   have k1:(num (r1.map sgB)=(Jo.natIn r1:Int))∨(10000≤num (r1.map sgB)∧10000≤Jo.natIn r1):=by
     rw [num_same,if_pos c1];by_cases h4:4 < r1.length
     · rw [if_pos h4]; exact .inr ⟨Int.le_refl _,can_big c1 h4⟩
     · rw [if_neg h4]; exact .inl rfl
   have k2:(num (r2.map sgB)=(Jo.natIn r2:Int))∨(10000≤num (r2.map sgB)∧10000≤Jo.natIn r2):=by
     rw [num_same,if_pos c2];by_cases h4:4 < r2.length
     · rw [if_pos h4]; exact .inr ⟨Int.le_refl _,can_big c2 h4⟩
     · rw [if_neg h4]; exact .inl rfl
   have k3:(num (r3.map sgB)=(Jo.natIn r3:Int))∨(10000≤num (r3.map sgB)∧10000≤Jo.natIn r3):=by
     rw [num_same,if_pos c3];by_cases h4:4 < r3.length
     · rw [if_pos h4]; exact .inr ⟨Int.le_refl _,can_big c3 h4⟩
     · rw [if_neg h4]; exact .inl rfl
   rw [if_neg,h]
   · rw [eN,eC]
     have hgl:(toM w).parts.getLast? = w.parts.getLast?.map toP:=by
       show (w.parts.map toP).getLast? = _;rw [List.getLast?_map]
     rw [hgl]
     cases hp:w.parts.getLast? with
     | none =>
       have eW:wrongW w (.own (.cut ⟨Jo.natIn r1,Jo.natIn r2,Jo.natIn r3,Jo.natIn r4,Jo.natIn r5,Jo.natIn r6⟩))=3:=by
         unfold wrongW;rw [hp]
       rw [stepW_of eW]
       rfl
     | some p =>
       have eW:wrongW w (.own (.cut ⟨Jo.natIn r1,Jo.natIn r2,Jo.natIn r3,Jo.natIn r4,Jo.natIn r5,Jo.natIn r6⟩))=if w.puts≠[] then 3 else if p.w < Jo.natIn r1+Jo.natIn r4∨p.d < Jo.natIn r2+Jo.natIn r5∨p.h < Jo.natIn r3+Jo.natIn r6 then 4 else if Jo.CUTS≤p.cuts.length then 2 else 0:=by
         unfold wrongW;rw [hp]
       have Wp:(toP p).2.Wf:=W.part _ (List.mem_map_of_mem (List.mem_of_getLast? hp));have hw16:p.w≤16:=Wp.w.2;have hd16:p.d≤16:=Wp.d.2;have hh16:p.h≤16:=Wp.h.2;have hc64:p.cuts.length≤64:=Wp.cuts;show (if (toM w).puts≠[] then _ else _)=_;by_cases hpu:w.puts=[];rotate_left
       · rw [if_pos ((puts_nil w).mpr hpu)];rw [if_pos hpu] at eW;rw [stepW_of eW];rfl
       rw [if_neg (fun z=>(puts_nil w).mp z hpu)];rw [if_neg (fun z=>z hpu)] at eW
       have hB:(toP p).2.beyond [num (r1.map sgB),num (r2.map sgB),num (r3.map sgB)] [(Jo.natIn r4:Int),(Jo.natIn r5:Int),(Jo.natIn r6:Int)]=true↔(p.w < Jo.natIn r1+Jo.natIn r4∨p.d < Jo.natIn r2+Jo.natIn r5∨p.h < Jo.natIn r3+Jo.natIn r6):=by
         show (decide ((p.w:Int) < num (r1.map sgB)+(Jo.natIn r4:Int)) || (decide ((p.d:Int) < num (r2.map sgB)+(Jo.natIn r5:Int)) || decide ((p.h:Int) < num (r3.map sgB)+(Jo.natIn r6:Int))))=true↔_;simp only [Bool.or_eq_true,decide_eq_true_eq];have z1:((p.w:Int) < num (r1.map sgB)+(Jo.natIn r4:Int))↔p.w < Jo.natIn r1+Jo.natIn r4:=by omega
         have z2:((p.d:Int) < num (r2.map sgB)+(Jo.natIn r5:Int))↔p.d < Jo.natIn r2+Jo.natIn r5:=by omega
         have z3:((p.h:Int) < num (r3.map sgB)+(Jo.natIn r6:Int))↔p.h < Jo.natIn r3+Jo.natIn r6:=by omega
         rw [z1,z2,z3]
       by_cases hb:p.w < Jo.natIn r1+Jo.natIn r4∨p.d < Jo.natIn r2+Jo.natIn r5∨p.h < Jo.natIn r3+Jo.natIn r6
       · rw [if_pos (hB.mpr hb)];rw [if_pos hb] at eW;rw [stepW_of eW];rfl
       rw [if_neg (fun z=>hb (hB.mp z))];rw [if_neg hb] at eW;have y1:num (r1.map sgB)=(Jo.natIn r1:Int):=k1.resolve_right (by omega);have y2:num (r2.map sgB)=(Jo.natIn r2:Int):=k2.resolve_right (by omega);have y3:num (r3.map sgB)=(Jo.natIn r3:Int):=k3.resolve_right (by omega);by_cases h64:p.cuts.length=64
       · rw [if_pos (show (toP p).2.cuts=64 from h64)];rw [if_pos (show Jo.CUTS≤p.cuts.length by rw [h64]; decide)] at eW;rw [stepW_of eW];rfl
       · rw [if_neg (show ¬ (toP p).2.cuts=64 from h64)];rw [if_neg (show ¬ Jo.CUTS≤p.cuts.length by unfold Jo.CUTS; omega)] at eW;rw [stepW_of eW,if_pos rfl,toM_cut w _ hp,y1,y2,y3];rfl
   · rw [eN,eC];rintro (q | q | q)
     · exact q rfl
     · simp only [List.contains_cons,List.contains_nil,Bool.or_false,Bool.or_eq_true,beq_iff_eq] at q;rcases q with q | q | q
       · exact (nge _).mpr c1 q.symm
       · exact (nge _).mpr c2 q.symm
       · exact (nge _).mpr c3 q.symm
     · rw [allIn_iff.mpr ⟨⟨by omega,by omega⟩,⟨by omega,by omega⟩,by omega,by omega⟩] at q;cases q
theorem step_put (w:Jo.Work) (W:(toM w).Wf) {b:Bytes} {l:List Bytes} (e:Jo.cutAt 32 b=aU :: l):readPut (toM w) ((aU :: l).map (·.map sgB))=stepW w (Jo.workLineIn b):=by
 unfold readPut
 have wy:∀ c d:UInt8,readWays ([c,d].map sgB)=if Jo.WAYS.idxOf c < 6∧Jo.WAYS.idxOf d < 6∧Jo.WAYS.idxOf c / 2≠Jo.WAYS.idxOf d / 2 then [(Jo.WAYS.idxOf c:Int),(Jo.WAYS.idxOf d:Int),(Jo.upOf (Jo.WAYS.idxOf c) (Jo.WAYS.idxOf d):Nat)] else []:=fun c d=>by
   have e:readWays ([c,d].map sgB)=if wayOf (sgB c) = -1∨wayOf (sgB d) = -1∨wayOf (sgB c) / 2=wayOf (sgB d) / 2 then [] else [wayOf (sgB c),wayOf (sgB d),(Jo.upOf (wayOf (sgB c)).toNat (wayOf (sgB d)).toNat:Nat)]:=rfl;rw [e,sgB_way,sgB_way];by_cases h1:Jo.WAYS.idxOf c < 6
   · by_cases h2:Jo.WAYS.idxOf d < 6
     · rw [if_pos h1,if_pos h2];by_cases h3:Jo.WAYS.idxOf c / 2=Jo.WAYS.idxOf d / 2
       · rw [if_pos (by omega),if_neg (by omega)]
       · rw [if_neg (by omega),if_pos ⟨h1,h2,h3⟩];rfl
     · rw [if_neg h2,if_pos (.inr (.inl rfl)),if_neg (by omega)]
   · rw [if_neg h1,if_pos (.inl rfl),if_neg (by omega)]
 rcases put_form e with h | ⟨r1,c,d,r3,r4,r5,rfl,C,h⟩
 · rw [h];by_cases hn:¬ ((aU :: l).map (·.map sgB)).length=6∨isName (at_ ((aU :: l).map (·.map sgB)) 1)=false∨allIn 0 48 (nums ((aU :: l).map (·.map sgB)) 3)=false
   · rw [if_pos hn];rfl
   · rw [if_neg hn,if_pos]
     · rfl
     · refine Classical.byContradiction fun hw=>?_;simp only [not_or,Classical.not_not,Bool.not_eq_false] at hn;obtain ⟨hl,q1,q2⟩:=hn;rw [List.length_map] at hl;obtain ⟨r1,r2,r3,r4,r5,rfl⟩:=six hl;have q1':isName (r1.map sgB)=true:=q1;have q2:allIn 0 48 [num (r3.map sgB),num (r4.map sgB),num (r5.map sgB)]=true:=q2;have hw:readWays (r2.map sgB)≠[]:=hw;rw [name_same] at q1';rw [allIn_iff] at q2;obtain ⟨p3,p4,p5⟩:=q2;have p3:=(num_in (by decide) (by decide)).mp p3;have p4:=(num_in (by decide) (by decide)).mp p4;have p5:=(num_in (by decide) (by decide)).mp p5;obtain ⟨x,y,_,_,e2,_⟩:=readWays_some hw
       obtain ⟨c,d,rfl⟩:∃ c d,r2=[c,d]:=by
         match r2,e2 with
         | [c,d],_=>exact ⟨c,d,rfl⟩
         | [],h=>simp at h
         | [_],h=>simp at h
         | _ :: _ :: _ :: _,h=>simp at h
       rw [wy] at hw;by_cases hc:Jo.WAYS.idxOf c < 6∧Jo.WAYS.idxOf d < 6∧Jo.WAYS.idxOf c / 2≠Jo.WAYS.idxOf d / 2
       · exact put_back e ⟨q1',⟨c,d,rfl,hc⟩,⟨p3.1,by omega⟩,⟨p4.1,by omega⟩,⟨p5.1,by omega⟩⟩ h
       · rw [if_neg hc] at hw;exact hw rfl
 · obtain ⟨n1,⟨c',d',ecd,i1,i2,i3⟩,⟨c3,w3⟩,⟨c4,w4⟩,c5,w5⟩:=C;injection ecd with q1 q2;injection q2 with q2 _;subst q1 q2;have p3:0≤num (r3.map sgB)∧num (r3.map sgB)≤48:=(num_in (by decide) (by decide)).mpr ⟨c3,by omega,by omega⟩;have p4:0≤num (r4.map sgB)∧num (r4.map sgB)≤48:=(num_in (by decide) (by decide)).mpr ⟨c4,by omega,by omega⟩;have p5:0≤num (r5.map sgB)∧num (r5.map sgB)≤48:=(num_in (by decide) (by decide)).mpr ⟨c5,by omega,by omega⟩;have v3:=num_val (by decide) (by decide) p3;have v4:=num_val (by decide) (by decide) p4;have v5:=num_val (by decide) (by decide) p5
   have eN:nums ([aU,r1,[c,d],r3,r4,r5].map (·.map sgB)) 3=[(Jo.natIn r3:Int),(Jo.natIn r4:Int),(Jo.natIn r5:Int)]:=by
     show [num (r3.map sgB),num (r4.map sgB),num (r5.map sgB)]=_;rw [v3,v4,v5]
   have e1:at_ ([aU,r1,[c,d],r3,r4,r5].map (·.map sgB)) 1=nmC r1:=name_map n1;have e2:readWays (at_ ([aU,r1,[c,d],r3,r4,r5].map (·.map sgB)) 2)=[(Jo.WAYS.idxOf c:Int),(Jo.WAYS.idxOf d:Int),(Jo.upOf (Jo.WAYS.idxOf c) (Jo.WAYS.idxOf d):Nat)]:=(wy c d).trans (if_pos ⟨i1,i2,i3⟩);rw [if_neg,h]
   · rw [eN,e1,e2,if_neg (by simp)];have eW:wrongW w (.put r1 (Jo.WAYS.idxOf c) (Jo.WAYS.idxOf d) (Jo.natIn r3) (Jo.natIn r4) (Jo.natIn r5))=if w.parts=[] then 3 else if (w.parts.any fun (p:Jo.Part)=>p.name == r1)=false then 4 else if Jo.WORKS≤w.puts.length then 2 else 0:=rfl;have hlen:(toM w).puts.length=w.puts.length:=by unfold toM; simp
     by_cases hp:w.parts=[]
     · rw [if_pos ((parts_nil w).mpr hp)];rw [if_pos hp] at eW;rw [stepW_of eW];rfl
     rw [if_neg (fun z=>hp ((parts_nil w).mp z))];rw [if_neg hp] at eW;rw [knows_same];by_cases hk:(w.parts.any fun (p:Jo.Part)=>p.name == r1)=false
     · rw [if_pos hk];rw [if_pos hk] at eW;rw [stepW_of eW];rfl
     rw [if_neg hk,hlen];rw [if_neg hk] at eW;have hnp:=W.nu;rw [hlen] at hnp;by_cases h32:w.puts.length=32
     · rw [if_pos h32];rw [if_pos (show Jo.WORKS≤w.puts.length by rw [h32]; decide)] at eW;rw [stepW_of eW];rfl
     · rw [if_neg h32];rw [if_neg (show ¬ Jo.WORKS≤w.puts.length by unfold Jo.WORKS; omega)] at eW;rw [stepW_of eW,if_pos rfl,toM_put];rfl
   · rw [eN,e1];rintro (q | q | q)
     · exact q rfl
     · rw [← name_map n1,name_same,n1] at q;cases q
     · rw [allIn_iff.mpr ⟨⟨by omega,by omega⟩,⟨by omega,by omega⟩,by omega,by omega⟩] at q;cases q
theorem step_line (w:Jo.Work) (W:(toM w).Wf) (b:Bytes):readLine (toM w) (b.map sgB)=stepW w (Jo.workLineIn b):=by
 unfold readLine;simp only;rw [cut_map sgB_32 b]
 cases e:Jo.cutAt 32 b with
 | nil=>exact absurd e (cutAt_ne 32 b)
 | cons w0 l =>
   have h0:at_ ((w0 :: l).map (·.map sgB)) 0=w0.map sgB:=rfl;rw [h0];have iP:w0.map sgB=wP↔w0=aP:=map_word (d:=aP) (by decide);have iC:w0.map sgB=wC↔w0=aC:=map_word (d:=aC) (by decide);have iU:w0.map sgB=wU↔w0=aU:=map_word (d:=aU) (by decide);by_cases h1:w0=aP
   · rw [if_pos (iP.mpr h1)];subst h1;exact step_part w W e
   rw [if_neg fun z=>h1 (iP.mp z)];by_cases h2:w0=aC
   · rw [if_pos (iC.mpr h2)];subst h2;exact step_cut w W e
   rw [if_neg fun z=>h2 (iC.mp z)];by_cases h3:w0=aU
   · rw [if_pos (iU.mpr h3)];subst h3;exact step_put w W e
   rw [if_neg fun z=>h3 (iU.mp z),other_line e h1 h2 h3];rfl
end Ho
end
section
set_option Elab.async false
set_option linter.all false
namespace Ho
open Jo (Bytes)
noncomputable def bare (t:Bytes):Bool:=!t.isEmpty && t.getLast? != some 10
theorem bare_cons (c:UInt8) {r:Bytes} (h:r≠[]):bare (c :: r)=bare r:=by
 cases r with
 | nil=>exact absurd rfl h
 | cons a r=>unfold bare; rw [List.getLast?_cons_cons]; rfl
theorem split_ne {r:Bytes} (h:r≠[]):Jo.splitLines r≠[]:=by
 cases r with
 | nil=>exact absurd rfl h
 | cons a r =>
   unfold Jo.splitLines;split
   · simp
   · split <;> simp
theorem split_cut':∀ t:Bytes,(bare t=false→Jo.cutAt 10 t=Jo.splitLines t++[[]])∧(bare t=true→Jo.cutAt 10 t=Jo.splitLines t∧∀ x,(Jo.splitLines t).getLast? = some x→x≠[])
 | []=>⟨fun _=>rfl,fun h=>by cases h⟩
 | c :: r=>by
   by_cases hr:r=[]
   · subst hr;by_cases hc:c=10
     · subst hc;exact ⟨fun _=>rfl,fun h=>by cases h⟩
     · have e1:Jo.cutAt 10 [c]=[[c]]:=by
         show (if c=10 then _ else _)=_;rw [if_neg hc];rfl
       have e2:Jo.splitLines [c]=[[c]]:=by
         show (if c=10 then _ else _)=_;rw [if_neg hc];rfl
       refine ⟨fun h=>?_,fun _=>⟨by rw [e1,e2],fun x hx=>?_⟩⟩
       · unfold bare at h;simp [hc] at h
       · rw [e2] at hx;have:[c]=x:=Option.some.inj hx;rw [← this];simp
   · obtain ⟨i1,i2⟩:=split_cut' r;rw [bare_cons c hr];have hs:=split_ne hr;by_cases hc:c=10
     · subst hc
       have e2:Jo.splitLines (10 :: r)=[] :: Jo.splitLines r:=by
         show (if (10:UInt8)=10 then _ else _)=_;rw [if_pos rfl]
       rw [cutAt_hit,e2];refine ⟨fun h=>by rw [i1 h]; rfl,fun h=>?_⟩;obtain ⟨j1,j2⟩:=i2 h;refine ⟨by rw [j1],fun x hx=>j2 x ?_⟩
       cases hS:Jo.splitLines r with
       | nil=>exact absurd hS hs
       | cons s S =>
         rw [hS,List.getLast?_cons_cons] at hx;exact hx
     · obtain ⟨w,l,q1,q2⟩:=cutAt_miss hc r;rw [q2]
       cases hS:Jo.splitLines r with
       | nil=>exact absurd hS hs
       | cons s S =>
         have e2:Jo.splitLines (c :: r)=(c :: s) :: S:=by
           show (if c=10 then _ else match Jo.splitLines r with | []=>[[c]] | l :: m=>(c :: l) :: m)=_;rw [if_neg hc,hS]
         rw [e2];rw [hS] at i1 i2;refine ⟨fun h=>?_,fun h=>?_⟩
         · have:=i1 h;rw [q1] at this;injection this with a b;rw [a,b];rfl
         · obtain ⟨j1,j2⟩:=i2 h;rw [q1] at j1;injection j1 with a b;refine ⟨by rw [a,b],fun x hx=>?_⟩
           cases S with
           | nil =>
             have:c :: s=x:=Option.some.inj hx;rw [← this]
             simp
           | cons s2 S2 =>
             rw [List.getLast?_cons_cons] at hx;exact j2 x (by rw [List.getLast?_cons_cons]; exact hx)
theorem from_same:∀ (ls:List Bytes) (k:Nat) (l:List Jo.WorkLine),(toM (Jo.workOf l)).Wf →
   (∀ l',Jo.workFrom false k l ls = .ok l'→readAll k (toM (Jo.workOf l)) (ls.map (·.map sgB))=(toM (Jo.workOf l'),[])) ∧
   (∀ e,Jo.workFrom false k l ls = .error e→(readAll k (toM (Jo.workOf l)) (ls.map (·.map sgB))).2=[(e.1:Int),(e.2:Int)])
 | [],k,l,W=>by
   refine ⟨fun l' h=>?_,fun e h=>?_⟩
   · have h:Except.ok l=Except.ok l':=h;injection h with h;subst h;rfl
   · cases h
 | b :: r,k,l,W=>by
   have hw:Jo.workFrom false k l (b :: r)=match Jo.workLineIn b with | none=>.error (k,1) | some x=>if Jo.wrongLine l x=0 then Jo.workFrom false (k+1) (l++[x]) r else .error (k,Jo.wrongLine l x):=rfl
   have hs:=step_line (Jo.workOf l) W b;have hWf:(readLine (toM (Jo.workOf l)) (b.map sgB)).2.Wf:=readLine_wf W;rw [List.map_cons,readAll_cons,hs];rw [hs] at hWf;rw [hw]
   cases hx:Jo.workLineIn b with
   | none =>
     refine ⟨fun l' h=>(by cases h),fun e h=>?_⟩;have h:Except.error (k,1)=Except.error e:=h;injection h with h;subst h
     rfl
   | some x =>
     rw [hx] at hWf;simp only;by_cases h0:Jo.wrongLine l x=0
     · have e0:wrongW (Jo.workOf l) x=0:=by rw [← wrong_eq]; exact h0
       rw [stepW_of e0,if_pos rfl,← workOf_snoc] at hWf ⊢;rw [if_pos h0,if_neg (fun h=>h rfl)];exact from_same r (k+1) (l++[x]) hWf
     · have e0:wrongW (Jo.workOf l) x=Jo.wrongLine l x:=(wrong_eq l x).symm;rw [stepW_of e0,if_neg h0,if_neg h0,if_pos (by show ((Jo.wrongLine l x:Nat):Int)≠0; omega)];refine ⟨fun l' h=>(by cases h),fun e h=>?_⟩;injection h with h;subst h;rfl
theorem from_bare (x:Bytes):∀ (ls:List Bytes) (k:Nat) (l:List Jo.WorkLine),Jo.workFrom true k l (ls++[x])=match Jo.workFrom false k l ls with | .ok _=>.error (k+ls.length,1) | .error e=>.error e
 | [],k,l=>rfl
 | b :: r,k,l=>by
   have hw:Jo.workFrom false k l (b :: r)=match Jo.workLineIn b with | none=>.error (k,1) | some y=>if Jo.wrongLine l y=0 then Jo.workFrom false (k+1) (l++[y]) r else .error (k,Jo.wrongLine l y):=rfl
   have hw2:Jo.workFrom true k l (b :: (r++[x]))=match (if (true && (r++[x]).isEmpty)=true then none else Jo.workLineIn b) with | none=>.error (k,1) | some y=>if Jo.wrongLine l y=0 then Jo.workFrom true (k+1) (l++[y]) (r++[x]) else .error (k,Jo.wrongLine l y):=rfl
   rw [List.cons_append,hw2,hw,if_neg (by simp)]
   cases hx:Jo.workLineIn b with
   | none=>rfl
   | some y =>
     simp only;by_cases h0:Jo.wrongLine l y=0
     · rw [if_pos h0,if_pos h0,from_bare x r (k+1) (l++[y]),List.length_cons,show k+1+r.length=k+(r.length+1) by omega]
     · rw [if_neg h0,if_neg h0]
theorem toM_nil:toM (Jo.workOf [])=MW.none:=rfl
theorem text_same (t:Bytes):(∀ w,Jo.readWork t = .ok w→readText (t.map sgB)=(toM w,[]))∧(∀ e,Jo.readWork t = .error e→(readText (t.map sgB)).2=[(e.1:Int),(e.2:Int)]):=by
 have hR:Jo.readWork t=(Jo.workFrom (bare t) 0 [] (Jo.splitLines t)).map Jo.workOf:=rfl
 have hT:readText (t.map sgB)=(if (readAll 0 .none ((Jo.cutAt 10 t).map (·.map sgB)).dropLast).2≠[] then readAll 0 .none ((Jo.cutAt 10 t).map (·.map sgB)).dropLast else if ((Jo.cutAt 10 t).map (·.map sgB)).getLastD []≠[] then ((readAll 0 .none ((Jo.cutAt 10 t).map (·.map sgB)).dropLast).1,[((((Jo.cutAt 10 t).map (·.map sgB)).dropLast).length:Int),1]) else readAll 0 .none ((Jo.cutAt 10 t).map (·.map sgB)).dropLast):=by
   unfold readText;simp only;rw [cut_map sgB_10 t]
 have W0:(toM (Jo.workOf [])).Wf:=MW.Wf.none;obtain ⟨s1,s2⟩:=split_cut' t;rw [hR,hT]
 cases hb:bare t with
 | false =>
   rw [s1 hb,List.map_append,List.map_cons,List.map_nil,List.map_nil,List.dropLast_concat,List.getLastD_concat];obtain ⟨f1,f2⟩:=from_same (Jo.splitLines t) 0 [] W0;rw [toM_nil] at f1 f2
   have e:∀ x:MW × List Int,(if x.2≠[] then x else if ([]:Cs)≠[] then (x.1,[((((Jo.splitLines t).map (·.map sgB))).length:Int),1]) else x)=x:=fun x=>by
     by_cases h:x.2≠[]
     · rw [if_pos h]
     · rw [if_neg h,if_neg (fun z=>z rfl)]
   rw [e]
   cases hF:Jo.workFrom false 0 [] (Jo.splitLines t) with
   | ok l' =>
     refine ⟨fun w h=>?_,fun e h=>by cases h⟩;have h:Except.ok (Jo.workOf l')=Except.ok w:=h;injection h with h
     rw [f1 l' hF,h]
   | error e =>
     refine ⟨fun w h=>(by cases h),fun e' h=>?_⟩;have h:Except.error e=Except.error e':=h;injection h with h;rw [← h]
     exact f2 e hF
 | true =>
   obtain ⟨j1,j2⟩:=s2 hb
   have hne:Jo.splitLines t≠[]:=by
     rw [← j1];exact cutAt_ne 10 t
   obtain ⟨L,x,hL⟩:∃ L x,Jo.splitLines t=L++[x]:=⟨_,_,(List.dropLast_concat_getLast hne).symm⟩;have hx:x≠[]:=j2 x (by rw [hL]; simp);rw [j1,hL,List.map_append,List.map_cons,List.map_nil,List.dropLast_concat,List.getLastD_concat,from_bare];obtain ⟨f1,f2⟩:=from_same L 0 [] W0;rw [toM_nil] at f1 f2
   cases hF:Jo.workFrom false 0 [] L with
   | ok l' =>
     refine ⟨fun w h=>(by cases h),fun e h=>?_⟩;have h:Except.error (0+L.length,1)=Except.error e:=h;injection h with h
     rw [f1 l' hF,if_neg (fun z=>z rfl),if_pos (by
       intro z;exact hx (List.map_eq_nil_iff.mp z)),← h,List.length_map,Nat.zero_add]
     rfl
   | error e =>
     refine ⟨fun w h=>(by cases h),fun e' h=>?_⟩;have h:Except.error e=Except.error e':=h;injection h with h;have q:=f2 e hF;rw [if_pos (by rw [q]; simp),q,h]
end Ho
end
section
set_option Elab.async false
set_option linter.all false
namespace Ho
noncomputable abbrev ce (cs:List (List Int)) (i:Nat):List Int:=cs.getD i []
noncomputable def com (cs:List (List Int)) (i j:Nat):Prop:=∃ c,c∈ce cs i∧c∈ce cs j
structure Least (Pr:Nat→Nat→Prop) (n i j:Nat):Prop where
 lt:i < j
 le:j < n
 pr:Pr i j
 min:∀ i' j',i' < j'→j' < n→Pr i' j'→i < i'∨(i=i'∧j≤j')
theorem Least.uniq {Pr:Nat→Nat→Prop} {n i j a b:Nat} (h:Least Pr n i j) (g:Least Pr n a b):(i,j)=(a,b):=by
 have h1:=h.min a b g.lt g.le g.pr;have h2:=g.min i j h.lt h.le h.pr;have e1:i=a:=by omega
 have e2:j=b:=by omega
 rw [e1,e2]
noncomputable def Ov (cs:List (List Int)) (j:Nat) (pre:List Int) (i' j':Nat):Prop:=i' < j'∧((j' < j∧com cs i' j')∨(j'=j∧∃ c,c∈pre∧c∈ce cs i'))
structure OInv (cs:List (List Int)) (j:Nat) (pre:List Int) (x:Own × Option (Nat × Nat)):Prop where
 own1:∀ c i,x.1.lookup c=some i→((i < j∧c∈ce cs i)∨(i=j∧c∈pre))∧∀ i',i' < i→c ∉ ce cs i'
 own2:∀ c,x.1.lookup c=none→(∀ i',i' < j→c ∉ ce cs i')∧c ∉ pre
 pn:x.2=none→∀ i' j',¬ Ov cs j pre i' j'
 ps:∀ a b,x.2=some (a,b)→Ov cs j pre a b∧∀ i' j',Ov cs j pre i' j'→a < i'∨(a=i'∧b≤j')
theorem lookup_snoc {l:Own} {c y:Int} {j:Nat}:(l++[(c,j)]).lookup y=match l.lookup y with | some i=>some i | none=>if y=c then some j else none:=by
 induction l with
 | nil =>
   show List.lookup y [(c,j)]=_;rw [List.lookup_cons];by_cases h:y=c
   · have hb:(y == c)=true:=beq_iff_eq.mpr h;rw [hb];simp [h]
   · have hb:(y == c)=false:=beq_eq_false_iff_ne.mpr h;rw [hb]
     simp [h]
 | cons p l ih =>
   rw [List.cons_append,List.lookup_cons,List.lookup_cons]
   cases (y == p.1) with
   | true=>rfl
   | false=>exact ih
theorem OInv.step {cs:List (List Int)} {j:Nat} {pre:List Int} {x:Own × Option (Nat × Nat)} (I:OInv cs j pre x) (c:Int):OInv cs j (pre++[c]) (ownStep j x c):=by
 have mp:∀ y,y∈pre++[c]↔y∈pre∨y=c:=fun y=>by simp
 have ovm:∀ {i' j'},Ov cs j (pre++[c]) i' j'↔Ov cs j pre i' j'∨(i' < j∧j'=j∧c∈ce cs i'):=fun {i' j'}=>by
   constructor
   · rintro ⟨h1,h2 | ⟨h2,y,hy,hy2⟩⟩
     · exact .inl ⟨h1,.inl h2⟩
     · rcases (mp y).mp hy with q | q
       · exact .inl ⟨h1,.inr ⟨h2,y,q,hy2⟩⟩
       · subst q;exact .inr ⟨by omega,h2,hy2⟩
   · rintro (⟨h1,h2 | ⟨h2,y,hy,hy2⟩⟩ | ⟨h1,h2,h3⟩)
     · exact ⟨h1,.inl h2⟩
     · exact ⟨h1,.inr ⟨h2,y,(mp y).mpr (.inl hy),hy2⟩⟩
     · exact ⟨by omega,.inr ⟨h2,c,(mp c).mpr (.inr rfl),h3⟩⟩
 cases hl:x.1.lookup c with
 | some i =>
   have eS:ownStep j x c=(x.1,if i≠j∧(∀ q∈x.2,i < q.1) then some (i,j) else x.2):=by
     unfold ownStep;rw [hl]
   obtain ⟨o1,o2⟩:=I.own1 c i hl;rw [eS];refine ⟨fun y i' h=>?_,fun y h=>?_,fun h=>?_,fun a b h=>?_⟩
   · obtain ⟨q1,q2⟩:=I.own1 y i' h;refine ⟨?_,q2⟩;rcases q1 with q | ⟨q,q'⟩
     · exact .inl q
     · exact .inr ⟨q,(mp y).mpr (.inl q')⟩
   · obtain ⟨q1,q2⟩:=I.own2 y h;refine ⟨q1,fun m=>?_⟩;rcases (mp y).mp m with m | m
     · exact q2 m
     · subst m;have h:x.1.lookup y=none:=h;rw [hl] at h;cases h
   · have h:(if i≠j∧(∀ q∈x.2,i < q.1) then some (i,j) else x.2)=none:=h;split at h
     · cases h
     · rename_i hc
       intro i' j' ov;rcases ovm.mp ov with ov | ⟨v1,v2,v3⟩
       · exact I.pn h i' j' ov
       · refine hc ⟨fun e=>?_,fun q hq=>?_⟩
         · subst e;exact o2 i' v1 v3
         · rw [h] at hq;cases hq
   · have h:(if i≠j∧(∀ q∈x.2,i < q.1) then some (i,j) else x.2)=some (a,b):=h
     have hge:∀ i',c∈ce cs i'→i≤i':=fun i' hi'=>by
       rcases Nat.lt_or_ge i' i with q | q
       · exact absurd hi' (o2 i' q)
       · exact q
     split at h
     · rename_i hc
       have e:=Option.some.inj h;injection e with e1 e2;subst e1 e2
       have hij:i < j:=by
         rcases o1 with q | q
         · exact q.1
         · exact absurd q.1 hc.1
       have hci:c∈ce cs i:=by
         rcases o1 with q | q
         · exact q.2
         · exact absurd q.1 hc.1
       refine ⟨ovm.mpr (.inr ⟨hij,rfl,hci⟩),fun i' j' ov=>?_⟩;rcases ovm.mp ov with ov | ⟨v1,v2,v3⟩
       · cases hp:x.2 with
         | none=>exact absurd ov (I.pn hp i' j')
         | some pq =>
           obtain ⟨a,b⟩:=pq;have h1:=(I.ps a b hp).2 i' j' ov;have h2:=hc.2 (a,b) (by rw [hp]; rfl);have h2:i < a:=h2;omega
       · have:=hge i' v3;omega
     · rename_i hc
       obtain ⟨q1,q2⟩:=I.ps a b h;refine ⟨ovm.mpr (.inl q1),fun i' j' ov=>?_⟩;rcases ovm.mp ov with ov | ⟨v1,v2,v3⟩
       · exact q2 i' j' ov
       · have hi:=hge i' v3
         have hbj:b≤j:=by
           rcases q1.2 with z | z
           · omega
           · omega
         have hai:a≤i∨i=j:=by
           rcases Nat.lt_or_ge i a with z | z
           · refine .inr (Classical.not_not.mp fun hne=>hc ⟨hne,fun q hq=>?_⟩);rw [h] at hq;cases hq;exact z
           · exact .inl z
         rcases hai with z | z
         · omega
         · omega
 | none =>
   have eS:ownStep j x c=(x.1++[(c,j)],x.2):=by
     unfold ownStep;rw [hl]
   obtain ⟨n1,n2⟩:=I.own2 c hl;rw [eS]
   have ovs:∀ {i' j'},Ov cs j (pre++[c]) i' j'↔Ov cs j pre i' j':=fun {i' j'}=>by
     rw [ovm];exact ⟨fun h=>h.resolve_right fun ⟨v1,_,v3⟩=>n1 i' v1 v3,.inl⟩
   refine ⟨fun y i' h=>?_,fun y h=>?_,fun h i' j' ov=>I.pn h i' j' (ovs.mp ov),fun a b h=>?_⟩
   · have h2:(x.1++[(c,j)]).lookup y=some i':=h;clear h;rw [lookup_snoc] at h2
     cases hy:x.1.lookup y with
     | some k =>
       rw [hy] at h2;have e:k=i':=Option.some.inj h2;subst e;obtain ⟨q1,q2⟩:=I.own1 y k hy;refine ⟨?_,q2⟩;rcases q1 with q | ⟨q,q'⟩
       · exact .inl q
       · exact .inr ⟨q,(mp y).mpr (.inl q')⟩
     | none =>
       rw [hy] at h2;simp only at h2;split at h2
       · rename_i hyc
         subst hyc;have e:j=i':=Option.some.inj h2;subst e;exact ⟨.inr ⟨rfl,(mp y).mpr (.inr rfl)⟩,n1⟩
       · cases h2
   · have h:(x.1++[(c,j)]).lookup y=none:=h;rw [lookup_snoc] at h
     cases hy:x.1.lookup y with
     | some k =>
       rw [hy] at h
       cases h
     | none =>
       rw [hy] at h;simp only at h;split at h
       · cases h
       · rename_i hyc
         obtain ⟨q1,q2⟩:=I.own2 y hy;refine ⟨q1,fun m=>?_⟩;rcases (mp y).mp m with m | m
         · exact q2 m
         · exact hyc m
   · obtain ⟨q1,q2⟩:=I.ps a b h;exact ⟨ovs.mpr q1,fun i' j' ov=>q2 i' j' (ovs.mp ov)⟩
theorem OInv.fold {cs:List (List Int)} {j:Nat}:∀ (l pre:List Int) {x:Own × Option (Nat × Nat)},OInv cs j pre x→OInv cs j (pre++l) (l.foldl (ownStep j) x)
 | [],pre,x,I=>by rw [List.append_nil]; exact I
 | c :: l,pre,x,I=>by
   rw [List.foldl_cons];have:=OInv.fold l (pre++[c]) (I.step c);rw [List.append_assoc] at this;exact this
theorem OInv.next {cs:List (List Int)} {j:Nat} {x:Own × Option (Nat × Nat)} (I:OInv cs j (ce cs j) x):OInv cs (j+1) [] x:=by
 have ov:∀ {i' j'},Ov cs (j+1) [] i' j'↔Ov cs j (ce cs j) i' j':=fun {i' j'}=>by
   constructor
   · rintro ⟨h1,⟨h2,h3⟩ | ⟨_,y,hy,_⟩⟩
     · rcases Nat.lt_or_ge j' j with q | q
       · exact ⟨h1,.inl ⟨q,h3⟩⟩
       · have e:j'=j:=by omega
         subst e;obtain ⟨c,c1,c2⟩:=h3;exact ⟨h1,.inr ⟨rfl,c,c2,c1⟩⟩
     · cases hy
   · rintro ⟨h1,⟨h2,h3⟩ | ⟨h2,y,hy,hy2⟩⟩
     · exact ⟨h1,.inl ⟨by omega,h3⟩⟩
     · subst h2;exact ⟨h1,.inl ⟨by omega,y,hy2,hy⟩⟩
 refine ⟨fun c i h=>?_,fun c h=>?_,fun h i' j' o=>I.pn h i' j' (ov.mp o),fun a b h=>?_⟩
 · obtain ⟨q1,q2⟩:=I.own1 c i h;refine ⟨.inl ?_,q2⟩;rcases q1 with q | ⟨q,q'⟩
   · exact ⟨by omega,q.2⟩
   · subst q;exact ⟨by omega,q'⟩
 · obtain ⟨q1,q2⟩:=I.own2 c h;refine ⟨fun i' hi=>?_,by simp⟩;rcases Nat.lt_or_ge i' j with q | q
   · exact q1 i' q
   · have e:i'=j:=by omega
     subst e;exact q2
 · obtain ⟨q1,q2⟩:=I.ps a b h;exact ⟨ov.mpr q1,fun i' j' o=>q2 i' j' (ov.mp o)⟩
theorem over_inv {cs:List (List Int)}:∀ (l:List (List Int)) (j:Nat) {x:Own × Option (Nat × Nat)},OInv cs j [] x→(∀ k,l.getD k []=ce cs (j+k))→OInv cs (j+l.length) [] (overFrom j x l)
 | [],j,x,I,_=>I
 | a :: l,j,x,I,h=>by
   show OInv cs (j+(l.length+1)) [] (overFrom (j+1) (a.foldl (ownStep j) x) l);have ha:a=ce cs j:=h 0;have I1:=I.fold a [];rw [List.nil_append] at I1;rw [ha] at I1
   have I2:=over_inv l (j+1) I1.next fun k=>by
     have:=h (k+1);rw [show j+1+k=j+(k+1) by omega];exact this
   rw [ha,show j+(l.length+1)=j+1+l.length by omega];exact I2
theorem over_whole (cs:List (List Int)):OInv cs cs.length [] (overFrom 0 ([],none) cs):=by
 have I0:OInv cs 0 [] (([],none):Own × Option (Nat × Nat)):=by
   refine ⟨fun c i h=>(by cases h),fun c _=>⟨fun i' hi=>absurd hi (Nat.not_lt_zero _),by simp⟩,fun _ i' j' o=>?_,fun a b h=>(by cases h)⟩;rcases o.2 with q | ⟨_,y,hy,_⟩
   · omega
   · cases hy
 have:=over_inv cs 0 I0 fun k=>by rw [Nat.zero_add]
 rw [Nat.zero_add] at this;exact this
theorem firstOverlap_some {cs:List (List Int)} {i j:Nat} (h:firstOverlap cs=some (i,j)):Least (com cs) cs.length i j:=by
 obtain ⟨⟨q1,q2⟩,q3⟩:=(over_whole cs).ps i j h;have q2:=q2.resolve_right fun ⟨_,y,hy,_⟩=>(by cases hy);exact ⟨q1,q2.1,q2.2,fun i' j' h1 h2 h3=>q3 i' j' ⟨h1,.inl ⟨h2,h3⟩⟩⟩
theorem firstOverlap_none {cs:List (List Int)} (h:firstOverlap cs=none):∀ i j,i < j→j < cs.length→¬ com cs i j:=fun i j h1 h2 h3=>(over_whole cs).pn h i j ⟨h1,.inl ⟨h2,h3⟩⟩
noncomputable def lexlt (p q:Nat × Nat):Prop:=p.1 < q.1∨(p.1=q.1∧p.2 < q.2)
theorem mem_pairs {n i j:Nat}:(i,j)∈Jo.pairs n↔i < j∧j < n:=by
 unfold Jo.pairs;simp only [List.mem_flatMap,List.mem_map,List.mem_filter,List.mem_range,decide_eq_true_eq];constructor
 · rintro ⟨a,ha,b,⟨hb,hab⟩,e⟩;injection e with e1 e2;subst e1 e2;exact ⟨hab,hb⟩
 · rintro ⟨h1,h2⟩;exact ⟨i,by omega,j,⟨h2,h1⟩,rfl⟩
theorem pairs_sorted (n:Nat):(Jo.pairs n).Pairwise lexlt:=by
 unfold Jo.pairs;rw [List.pairwise_flatMap];refine ⟨fun i _=>?_,?_⟩
 · rw [List.pairwise_map];exact (List.Pairwise.filter _ List.pairwise_lt_range).imp fun {a b} h=>.inr ⟨rfl,h⟩
 · refine List.pairwise_lt_range.imp fun {a b} h=>?_;intro x hx y hy;obtain ⟨u,_,rfl⟩:=List.mem_map.mp hx;obtain ⟨v,_,rfl⟩:=List.mem_map.mp hy;exact .inl h
theorem find_pairs_some {n:Nat} {Pr:Nat→Nat→Prop} {f:Nat × Nat→Bool} (hf:∀ i j,i < j→j < n→(f (i,j)=true↔Pr i j)) {p:Nat × Nat} (h:(Jo.pairs n).find? f=some p):Least Pr n p.1 p.2:=by
 obtain ⟨hp,as,bs,e,hn⟩:=List.find?_eq_some_iff_append.mp h;have hm:(p.1,p.2)∈Jo.pairs n:=by rw [e]; simp
 obtain ⟨h1,h2⟩:=mem_pairs.mp hm;refine ⟨h1,h2,(hf _ _ h1 h2).mp hp,fun i' j' q1 q2 q3=>?_⟩;have hm':(i',j')∈Jo.pairs n:=mem_pairs.mpr ⟨q1,q2⟩;have hs:=pairs_sorted n;rw [e] at hm' hs;rcases List.mem_append.mp hm' with z | z
 · have:=hn _ z;rw [(hf _ _ q1 q2).mpr q3] at this;cases this
 · rcases List.mem_cons.mp z with z | z
   · have z1:=congrArg Prod.fst z;have z2:=congrArg Prod.snd z;simp only at z1 z2;omega
   · have:=(List.pairwise_cons.mp (List.pairwise_append.mp hs).2.1).1 _ z;rcases this with q | q
     · exact .inl q
     · exact .inr ⟨q.1,Nat.le_of_lt q.2⟩
theorem find_pairs_none {n:Nat} {Pr:Nat→Nat→Prop} {f:Nat × Nat→Bool} (hf:∀ i j,i < j→j < n→(f (i,j)=true↔Pr i j)) (h:(Jo.pairs n).find? f=none):∀ i j,i < j→j < n→¬ Pr i j:=fun i j h1 h2 h3=>by
 have:=List.find?_eq_none.mp h (i,j) (mem_pairs.mpr ⟨h1,h2⟩);exact this ((hf i j h1 h2).mpr h3)
theorem overlap_eq {cs:List (List Int)} {n:Nat} (hn:cs.length=n) {f:Nat × Nat→Bool} (hf:∀ i j,i < j→j < n→(f (i,j)=true↔com cs i j)):firstOverlap cs=(Jo.pairs n).find? f:=by
 subst hn
 cases h1:firstOverlap cs with
 | none =>
   cases h2:(Jo.pairs cs.length).find? f with
   | none=>rfl
   | some q =>
     have L:=find_pairs_some hf h2
     exact absurd L.pr (firstOverlap_none h1 _ _ L.lt L.le)
 | some p =>
   obtain ⟨i,j⟩:=p;have L1:=firstOverlap_some h1
   cases h2:(Jo.pairs cs.length).find? f with
   | none=>exact absurd L1.pr (find_pairs_none hf h2 _ _ L1.lt L1.le)
   | some q =>
     have L2:=find_pairs_some hf h2;rw [L1.uniq L2]
end Ho
end
section
set_option Elab.async false
set_option linter.all false
namespace Ho
theorem xor_and (m:Nat):∀ n:Nat,(m ^^^ n)+2*(m &&& n)=m+n:=by
 induction m using Nat.strongRecOn with
 | _ m ih =>
   intro n;by_cases h0:m=0
   · subst h0; simp
   · have i2:=ih (m / 2) (by omega) (n / 2);have e1:(m ^^^ n) / 2=m / 2 ^^^ n / 2:=Nat.xor_div_two;have e2:(m &&& n) / 2=m / 2 &&& n / 2:=Nat.and_div_two;have h2:∀ q:Nat,q % 2=(q.testBit 0).toNat:=fun q=>by rw [Nat.toNat_testBit,Nat.pow_zero,Nat.div_one]
     have o1:(m ^^^ n) % 2+2*((m &&& n) % 2)=m % 2+n % 2:=by
       rw [h2 (m ^^^ n),h2 (m &&& n),h2 m,h2 n,Nat.testBit_xor,Nat.testBit_and];generalize m.testBit 0=p;generalize n.testBit 0=q;clear ih h0 i2 e1 e2 h2;revert p q;decide
     rw [← e1,← e2] at i2;generalize m ^^^ n=X at i2 o1 ⊢;generalize m &&& n=Y at i2 o1 ⊢;clear ih h0 e1 e2 h2;omega
theorem clr_bit (r g i:Nat):(clr r g).testBit i=(r.testBit i && !g.testBit i):=by
 have e:clr r g=r ^^^ (r &&& g):=by
   have h:=xor_and r (r &&& g);have h2:r &&& (r &&& g)=r &&& g:=by rw [← Nat.and_assoc,Nat.and_self]
   rw [h2] at h;unfold clr;omega
 rw [e,Nat.testBit_xor,Nat.testBit_and];cases r.testBit i <;> cases g.testBit i <;> rfl
theorem gone_bit (w x i:Nat):((2 ^ w - 1)*2 ^ x).testBit i=(decide (x≤i) && decide (i < x+w)):=by
 rw [Nat.testBit_mul_two_pow,Nat.testBit_two_pow_sub_one];by_cases h:x≤i
 · rw [decide_eq_true h,Bool.true_and,Bool.true_and,decide_eq_decide];omega
 · rw [decide_eq_false h,Bool.false_and,Bool.false_and]
theorem bit_div (r i:Nat):(r / 2 ^ i % 2 == 1)=r.testBit i:=by
 rw [Nat.testBit_eq_decide_div_mod_eq];rfl
theorem fold_bits {f:List Nat→Nat→List Nat} {ix:Nat→Nat} {g:Nat} (hf:∀ R j,f R j=R.set (ix j) (clr (R.getD (ix j) 0) g)) (i:Nat):∀ (l:List Nat) (R:List Nat),(∀ j∈l,ix j < R.length) →
   (l.foldl f R).length=R.length∧∀ n,n < R.length→((l.foldl f R).getD n 0).testBit i=((R.getD n 0).testBit i && !(decide (∃ j,j∈l∧ix j=n) && g.testBit i))
 | [],R,_=>⟨rfl,fun n _=>by simp⟩
 | a :: l,R,h=>by
   rw [List.foldl_cons,hf R a];have hl:(R.set (ix a) (clr (R.getD (ix a) 0) g)).length=R.length:=List.length_set ..;obtain ⟨i1,i2⟩:=fold_bits hf i l (R.set (ix a) (clr (R.getD (ix a) 0) g)) fun j hj=>by rw [hl]; exact h j (List.mem_cons_of_mem _ hj)
   refine ⟨by rw [i1,hl],fun n hn=>?_⟩;rw [i2 n (by rw [hl]; exact hn)];by_cases hna:ix a=n
   · have e:(R.set (ix a) (clr (R.getD (ix a) 0) g)).getD n 0=clr (R.getD n 0) g:=by
       rw [List.getD_eq_getElem?_getD,hna,List.getElem?_set_self hn];rfl
     rw [e,clr_bit];have d1:decide (∃ j,j∈a :: l∧ix j=n)=true:=decide_eq_true ⟨a,by simp,hna⟩;rw [d1];cases (R.getD n 0).testBit i <;> cases g.testBit i <;> simp
   · have e:(R.set (ix a) (clr (R.getD (ix a) 0) g)).getD n 0=R.getD n 0:=by
       rw [List.getD_eq_getElem?_getD,List.getElem?_set_ne hna,← List.getD_eq_getElem?_getD]
     have d1:decide (∃ j,j∈a :: l∧ix j=n)=decide (∃ j,j∈l∧ix j=n):=by
       rw [decide_eq_decide];constructor
       · rintro ⟨j,hj,hjn⟩;rcases List.mem_cons.mp hj with q | q
         · rw [q] at hjn; exact absurd hjn hna
         · exact ⟨j,q,hjn⟩
       · rintro ⟨j,hj,hjn⟩;exact ⟨j,List.mem_cons_of_mem _ hj,hjn⟩
     rw [e,d1]
theorem dm_uniq {d a b z k:Nat} (ha:a < d) (hb:b < d) (h:a+d*z=b+d*k):a=b∧z=k:=by
 have h1:(a+d*z) % d=a:=by rw [Nat.add_mul_mod_self_left,Nat.mod_eq_of_lt ha]
 have h2:(b+d*k) % d=b:=by rw [Nat.add_mul_mod_self_left,Nat.mod_eq_of_lt hb]
 have hd:0 < d:=by omega
 have h3:(a+d*z) / d=z:=by rw [Nat.add_mul_div_left _ _ hd,Nat.div_eq_of_lt ha,Nat.zero_add]
 have h4:(b+d*k) / d=k:=by rw [Nat.add_mul_div_left _ _ hd,Nat.div_eq_of_lt hb,Nat.zero_add]
 rw [h] at h1 h3;exact ⟨h1.symm.trans h2,h3.symm.trans h4⟩
theorem at_lt {d h j k:Nat} (hj:j < d) (hk:k < h):j+d*k < d*h:=by
 have h1:d*(k+1)≤d*h:=Nat.mul_le_mul_left _ hk;rw [Nat.mul_add,Nat.mul_one] at h1;omega
theorem flat_bits {d h g y dd z:Nat} (hy:y+dd≤d) (hz:z < h) (i:Nat) (R:List Nat) (hl:R.length=d*h):(cutFlat d g y dd R z).length=d*h∧∀ j k,j < d→k < h→((cutFlat d g y dd R z).getD (j+d*k) 0).testBit i=((R.getD (j+d*k) 0).testBit i && !((decide (k=z) && (decide (y≤j) && decide (j < y+dd))) && g.testBit i)):=by
 obtain ⟨f1,f2⟩:=fold_bits (f:=cutRow d g y z) (ix:=fun j=>y+j+d*z) (g:=g) (fun _ _=>rfl) i (List.range dd) R fun j hj=>by
   rw [hl];exact at_lt (by have:=List.mem_range.mp hj; omega) hz
 refine ⟨f1.trans hl,fun j k hj hk=>?_⟩;have:=f2 (j+d*k) (by rw [hl]; exact at_lt hj hk);unfold cutFlat
 rw [this];congr 3;rw [Bool.eq_iff_iff];simp only [decide_eq_true_eq,Bool.and_eq_true];constructor
 · rintro ⟨j',hj',e⟩;have hj':=List.mem_range.mp hj';obtain ⟨q1,q2⟩:=dm_uniq (by omega) hj e;omega
 · rintro ⟨q1,q2,q3⟩;refine ⟨j - y,List.mem_range.mpr (by omega),?_⟩;rw [q1];omega
theorem away_bits {d h y dd z x w:Nat} (hy:y+dd≤d) (i:Nat):∀ (hh:Nat) (R:List Nat),z+hh≤h→R.length=d*h→(cutAway d R x y z w dd hh).length=d*h∧∀ j k,j < d→k < h→((cutAway d R x y z w dd hh).getD (j+d*k) 0).testBit i=((R.getD (j+d*k) 0).testBit i && !((decide (z≤k) && decide (k < z+hh)) && ((decide (y≤j) && decide (j < y+dd)) && (decide (x≤i) && decide (i < x+w)))))
 | 0,R,_,hl=>⟨hl,fun j k hj hk=>by
     have:(decide (z≤k) && decide (k < z+0))=false:=by
       rw [Bool.and_eq_false_iff,decide_eq_false_iff_not,decide_eq_false_iff_not];omega
     rw [this,Bool.false_and,Bool.not_false,Bool.and_true]
     rfl⟩
 | hh+1,R,hz,hl=>by
   obtain ⟨i1,i2⟩:=away_bits (h:=h) (z:=z) (x:=x) (w:=w) hy i hh R (by omega) hl
   have e:cutAway d R x y z w dd (hh+1)=cutFlat d ((2 ^ w - 1)*2 ^ x) y dd (cutAway d R x y z w dd hh) (z+hh):=by
     unfold cutAway;rw [List.range_succ,List.foldl_append];rfl
   obtain ⟨f1,f2⟩:=flat_bits (h:=h) (g:=(2 ^ w - 1)*2 ^ x) hy (show z+hh < h by omega) i (cutAway d R x y z w dd hh) i1;rw [e];refine ⟨f1,fun j k hj hk=>?_⟩;rw [f2 j k hj hk,i2 j k hj hk,gone_bit]
   have d1:decide (k < z+(hh+1))=(decide (k < z+hh) || decide (k=z+hh)):=by
     rw [Bool.eq_iff_iff];simp only [decide_eq_true_eq,Bool.or_eq_true];omega
   have d2:(decide (k=z+hh) && decide (z≤k))=decide (k=z+hh):=by
     rw [Bool.eq_iff_iff];simp only [decide_eq_true_eq,Bool.and_eq_true];omega
   rw [d1];revert d2;generalize (R.getD (j+d*k) 0).testBit i=r;generalize decide (z≤k)=a;generalize decide (k < z+hh)=b;generalize decide (k=z+hh)=c;generalize (decide (y≤j) && decide (j < y+dd))=q;generalize (decide (x≤i) && decide (i < x+w))=s;clear i1 i2 e f1 f2 d1 hj hk;revert r a b c q s;decide
noncomputable def InB (w d h:Nat) (b:Jo.Box):Prop:=b.x+b.w≤w∧b.y+b.d≤d∧b.z+b.h≤h
theorem has_eq (b:Jo.Box) (i j k:Nat):b.has (i,j,k)=((decide (b.z≤k) && decide (k < b.z+b.h)) && ((decide (b.y≤j) && decide (j < b.y+b.d)) && (decide (b.x≤i) && decide (i < b.x+b.w)))):=by
 unfold Jo.Box.has;simp only;generalize decide (b.z≤k)=z1;generalize decide (k < b.z+b.h)=z2;generalize decide (b.y≤j)=y1;generalize decide (j < b.y+b.d)=y2;generalize decide (b.x≤i)=x1;generalize decide (i < b.x+b.w)=x2;revert z1 z2 y1 y2 x1 x2;decide
theorem rows_fold {d h:Nat} (i:Nat):∀ (cuts:List Jo.Box) (R:List Nat),(∀ b∈cuts,b.y+b.d≤d∧b.z+b.h≤h)→R.length=d*h→(cuts.foldl (fun R (b:Jo.Box)=>cutAway d R b.x b.y b.z b.w b.d b.h) R).length=d*h∧∀ j k,j < d→k < h→((cuts.foldl (fun R (b:Jo.Box)=>cutAway d R b.x b.y b.z b.w b.d b.h) R).getD (j+d*k) 0).testBit i=((R.getD (j+d*k) 0).testBit i && !cuts.any fun b=>b.has (i,j,k))
 | [],R,_,hl=>⟨hl,fun j k _ _=>by simp⟩
 | b :: l,R,hb,hl=>by
   obtain ⟨q1,q2⟩:=hb b (by simp);obtain ⟨a1,a2⟩:=away_bits (x:=b.x) (w:=b.w) q1 i b.h R q2 hl;obtain ⟨i1,i2⟩:=rows_fold i l (cutAway d R b.x b.y b.z b.w b.d b.h) (fun c hc=>hb c (by simp [hc])) a1;refine ⟨i1,fun j k hj hk=>?_⟩;rw [List.foldl_cons,i2 j k hj hk,a2 j k hj hk,List.any_cons,has_eq];generalize ((decide (b.z≤k) && decide (k < b.z+b.h)) && ((decide (b.y≤j) && decide (j < b.y+b.d)) && (decide (b.x≤i) && decide (i < b.x+b.w))))=q;cases (R.getD (j+d*k) 0).testBit i <;> cases q <;> simp
theorem rows_bit {w d h i j k:Nat} {cuts:List Jo.Box} (hb:∀ b∈cuts,InB w d h b) (hi:i < w) (hj:j < d) (hk:k < h):((rowsOf w d h cuts).getD (j+d*k) 0).testBit i = !cuts.any fun b=>b.has (i,j,k):=by
 obtain ⟨_,f2⟩:=rows_fold (d:=d) (h:=h) i cuts (List.replicate (d*h) (2 ^ w - 1)) (fun b hb'=>⟨(hb b hb').2.1,(hb b hb').2.2⟩) List.length_replicate;unfold rowsOf;rw [f2 j k hj hk]
 have e:(List.replicate (d*h) (2 ^ w - 1)).getD (j+d*k) 0=2 ^ w - 1:=by
   rw [List.getD_eq_getElem?_getD,List.getElem?_replicate,if_pos (at_lt hj hk)];rfl
 rw [e,Nat.testBit_two_pow_sub_one,decide_eq_true hi,Bool.true_and]
theorem mem_places {w d h:Nat} {c:Jo.Cell}:c∈Jo.places w d h↔c.1 < w∧c.2.1 < d∧c.2.2 < h:=by
 unfold Jo.places;simp only [List.mem_map,List.mem_range];constructor
 · rintro ⟨i,hi,rfl⟩;simp only
   have hw:0 < w:=by
     rcases Nat.eq_zero_or_pos w with q | q
     · rw [q] at hi; simp at hi
     · exact q
   have hd:0 < d:=by
     rcases Nat.eq_zero_or_pos d with q | q
     · rw [q] at hi; simp at hi
     · exact q
   refine ⟨Nat.mod_lt _ hw,Nat.mod_lt _ hd,?_⟩;rw [Nat.div_lt_iff_lt_mul (Nat.mul_pos hw hd),Nat.mul_comm];exact hi
 · rintro ⟨h1,h2,h3⟩;obtain ⟨a,b,c⟩:=c;simp only at h1 h2 h3;have hw:0 < w:=by omega
   have hd:0 < d:=by omega
   refine ⟨a+w*(b+d*c),?_,?_⟩
   · have:=at_lt h1 (at_lt h2 h3);rw [Nat.mul_assoc];exact this
   · have e1:(a+w*(b+d*c)) % w=a:=by rw [Nat.add_mul_mod_self_left,Nat.mod_eq_of_lt h1]
     have e2:(a+w*(b+d*c)) / w=b+d*c:=by rw [Nat.add_mul_div_left _ _ hw,Nat.div_eq_of_lt h1,Nat.zero_add]
     have e3:(b+d*c) % d=b:=by rw [Nat.add_mul_mod_self_left,Nat.mod_eq_of_lt h2]
     have e4:(b+d*c) / d=c:=by rw [Nat.add_mul_div_left _ _ hd,Nat.div_eq_of_lt h2,Nat.zero_add]
     rw [← Nat.div_div_eq_div_mul,e1,e2,e3,e4]
theorem places_at {w d h a b c:Nat} (h1:a < w) (h2:b < d) (h3:c < h):(Jo.places w d h)[Jo.gridAt w d (a,b,c)]? = some (a,b,c):=by
 have hw:0 < w:=by omega
 have hd:0 < d:=by omega
 unfold Jo.places Jo.gridAt
 have hlt:a+w*(b+d*c) < w*d*h:=by
   have:=at_lt h1 (at_lt h2 h3);rw [Nat.mul_assoc];exact this
 have e1:(a+w*(b+d*c)) % w=a:=by rw [Nat.add_mul_mod_self_left,Nat.mod_eq_of_lt h1]
 have e2:(a+w*(b+d*c)) / w=b+d*c:=by rw [Nat.add_mul_div_left _ _ hw,Nat.div_eq_of_lt h1,Nat.zero_add]
 have e3:(b+d*c) % d=b:=by rw [Nat.add_mul_mod_self_left,Nat.mod_eq_of_lt h2]
 have e4:(b+d*c) / d=c:=by rw [Nat.add_mul_div_left _ _ hd,Nat.div_eq_of_lt h2,Nat.zero_add]
 rw [List.getElem?_map,List.getElem?_range hlt];simp only [Option.map_some];rw [← Nat.div_div_eq_div_mul,e1,e2,e3,e4]
theorem grid_inj {w d a b c a' b' c':Nat} (h1:a < w) (h2:b < d) (h1':a' < w) (h2':b' < d) (e:Jo.gridAt w d (a,b,c)=Jo.gridAt w d (a',b',c')):a=a'∧b=b'∧c=c':=by
 unfold Jo.gridAt at e;obtain ⟨q1,q2⟩:=dm_uniq h1 h1' e;obtain ⟨q3,q4⟩:=dm_uniq h2 h2' q2;exact ⟨q1,q3,q4⟩
theorem wood_in {w d h i j k:Nat} (hi:i < w) (hj:j < d) (hk:k < h):∀ (l:List Jo.Cell) (v:Array Bool),v.size=w*d*h →
   (l.foldl (fun (v:Array Bool) (c:Jo.Cell)=>if c.1 < w∧c.2.1 < d∧c.2.2 < h then v.setIfInBounds (Jo.gridAt w d c) false else v) v).size=w*d*h ∧
   (l.foldl (fun (v:Array Bool) (c:Jo.Cell)=>if c.1 < w∧c.2.1 < d∧c.2.2 < h then v.setIfInBounds (Jo.gridAt w d c) false else v) v).getD (Jo.gridAt w d (i,j,k)) false=(v.getD (Jo.gridAt w d (i,j,k)) false && !decide ((i,j,k)∈l))
 | [],v,hv=>⟨hv,by simp⟩
 | c :: l,v,hv=>by
   rw [List.foldl_cons]
   have hlt:Jo.gridAt w d (i,j,k) < v.size:=by
     rw [hv,Nat.mul_assoc];exact at_lt hi (at_lt hj hk)
   by_cases hc:c.1 < w∧c.2.1 < d∧c.2.2 < h
   · rw [if_pos hc];obtain ⟨i1,i2⟩:=wood_in hi hj hk l (v.setIfInBounds (Jo.gridAt w d c) false) (by rw [Array.size_setIfInBounds]; exact hv);refine ⟨i1,?_⟩;rw [i2];by_cases he:(i,j,k)=c
     · subst he
       have e0:(v.setIfInBounds (Jo.gridAt w d (i,j,k)) false).getD (Jo.gridAt w d (i,j,k)) false=false:=by
         rw [Array.getD_eq_getD_getElem?,Array.getElem?_setIfInBounds_self_of_lt hlt];rfl
       rw [e0];simp
     · have hne:Jo.gridAt w d c≠Jo.gridAt w d (i,j,k):=fun e=>by
         obtain ⟨a,b,cc⟩:=c;obtain ⟨q1,q2,q3⟩:=grid_inj (a:=a) (b:=b) hc.1 hc.2.1 hi hj e;exact he (by rw [q1,q2,q3])
       have e0:(v.setIfInBounds (Jo.gridAt w d c) false).getD (Jo.gridAt w d (i,j,k)) false=v.getD (Jo.gridAt w d (i,j,k)) false:=by
         rw [Array.getD_eq_getD_getElem?,Array.getElem?_setIfInBounds_ne hne,← Array.getD_eq_getD_getElem?]
       rw [e0];congr 2;rw [decide_eq_decide,List.mem_cons];exact ⟨.inr,fun q=>q.resolve_left he⟩
   · rw [if_neg hc];obtain ⟨i1,i2⟩:=wood_in hi hj hk l v hv;refine ⟨i1,?_⟩;rw [i2];congr 2;rw [decide_eq_decide,List.mem_cons];refine ⟨.inr,fun q=>q.resolve_left fun e=>hc ?_⟩;rw [← e];exact ⟨hi,hj,hk⟩
theorem box_mem (b:Jo.Box) (i j k:Nat):((i,j,k)∈b.places)↔b.has (i,j,k)=true:=by
 unfold Jo.Box.places Jo.Box.has;simp only [List.mem_map,mem_places,Bool.and_eq_true,decide_eq_true_eq];constructor
 · rintro ⟨⟨a,c,d⟩,⟨h1,h2,h3⟩,e⟩;simp only at h1 h2 h3 e;have e1:=congrArg Prod.fst e;have e2:=congrArg (fun z=>z.2.1) e;have e3:=congrArg (fun z=>z.2.2) e;simp only at e1 e2 e3;omega
 · rintro ⟨h1,h2,h3,h4,h5,h6⟩;refine ⟨(i - b.x,j - b.y,k - b.z),⟨by simp only; omega,by simp only; omega,by simp only; omega⟩,?_⟩;simp only;rw [Nat.sub_add_cancel h1,Nat.sub_add_cancel h3,Nat.sub_add_cancel h5]
theorem wood_fold {w d h i j k:Nat} (hi:i < w) (hj:j < d) (hk:k < h):∀ (cuts:List Jo.Box) (v:Array Bool),v.size=w*d*h →
   (cuts.foldl (fun (v:Array Bool) (b:Jo.Box)=>b.places.foldl (fun (v:Array Bool) (c:Jo.Cell)=>if c.1 < w∧c.2.1 < d∧c.2.2 < h then v.setIfInBounds (Jo.gridAt w d c) false else v) v) v).getD (Jo.gridAt w d (i,j,k)) false=(v.getD (Jo.gridAt w d (i,j,k)) false && !cuts.any fun b=>b.has (i,j,k))
 | [],v,_=>by simp
 | b :: l,v,hv=>by
   obtain ⟨i1,i2⟩:=wood_in hi hj hk b.places v hv;rw [List.foldl_cons,wood_fold hi hj hk l _ i1,i2,List.any_cons]
   have:decide ((i,j,k)∈b.places)=b.has (i,j,k):=by
     rw [Bool.eq_iff_iff,decide_eq_true_eq];exact box_mem b i j k
   rw [this];cases v.getD (Jo.gridAt w d (i,j,k)) false <;> cases b.has (i,j,k) <;> simp
theorem wood_at {w d h i j k:Nat} (hi:i < w) (hj:j < d) (hk:k < h) (cuts:List Jo.Box):(Jo.woodOf w d h cuts).getD (Jo.gridAt w d (i,j,k)) false = !cuts.any fun b=>b.has (i,j,k):=by
 unfold Jo.woodOf;rw [wood_fold hi hj hk cuts _ Array.size_replicate]
 have:(Array.replicate (w*d*h) true).getD (Jo.gridAt w d (i,j,k)) false=true:=by
   have hlt:Jo.gridAt w d (i,j,k) < w*d*h:=by
     rw [Nat.mul_assoc];exact at_lt hi (at_lt hj hk)
   rw [Array.getD_eq_getD_getElem?,Array.getElem?_replicate,if_pos hlt];rfl
 rw [this,Bool.true_and]
end Ho
end
section
set_option Elab.async false
set_option linter.all false
namespace Ho
theorem rows_mem {w d:Nat} {st s0 s1 s2 z:Int}:∀ (l:List Nat) (n:Nat),z∈rowsCells w d st [s0,s1,s2] n l↔∃ t x,t < l.length∧x < w∧(l.getD t 0).testBit x=true∧z=st+((n+t:Nat):Int) % (d:Int)*s1+((n+t:Nat):Int) / (d:Int)*s2+(x:Int)*s0
 | [],n=>by
   show z∈[]↔_
   simp
 | r :: l,n=>by
   have e:rowsCells w d st [s0,s1,s2] n (r :: l)=rowCells w (st+(n:Int) % (d:Int)*s1+(n:Int) / (d:Int)*s2) s0 r++rowsCells w d st [s0,s1,s2] (n+1) l:=rfl;rw [e,List.mem_append,rows_mem l (n+1)];unfold rowCells;simp only [List.mem_map,List.mem_filter,List.mem_range];constructor
   · rintro (⟨x,⟨hx,hb⟩,rfl⟩ | ⟨t,x,ht,hx,hb,rfl⟩)
     · rw [bit_div] at hb;exact ⟨0,x,by simp,hx,hb,rfl⟩
     · refine ⟨t+1,x,by rw [List.length_cons]; omega,hx,hb,?_⟩;rw [show n+1+t=n+(t+1) by omega]
   · rintro ⟨t,x,ht,hx,hb,rfl⟩
     cases t with
     | zero =>
       refine .inl ⟨x,⟨hx,?_⟩,rfl⟩;rw [bit_div]
       exact hb
     | succ t =>
       refine .inr ⟨t,x,by rw [List.length_cons] at ht; omega,hx,hb,?_⟩;rw [show n+1+t=n+(t+1) by omega]
noncomputable def sgnS (v:Int):Int:=if v % 2=0 then stride v else -stride v
noncomputable def offS (s cor:List Int) (v:Int) (k:Nat):Int:=cor.getD (v / 2).toNat 0*stride v+(if v % 2=0 then 0 else (s.getD k 0 - 1)*stride v)
theorem start_one (s cor:List Int) (v:Int) (r:List Int) (k:Nat) (st:Int) (sp:List Int):startOf s cor (v :: r) k st sp=startOf s cor r (k+1) (st+offS s cor v k) (sp++[sgnS v]):=by
 have e:startOf s cor (v :: r) k st sp=if v % 2=0 then startOf s cor r (k+1) (st+cor.getD (v / 2).toNat 0*stride v) (sp++[stride v])
   else startOf s cor r (k+1) (st+cor.getD (v / 2).toNat 0*stride v+(s.getD k 0 - 1)*stride v) (sp++[-stride v]):=rfl
 rw [e];unfold offS sgnS;by_cases h:v % 2=0
 · rw [if_pos h,if_pos h,if_pos h,Int.add_zero]
 · rw [if_neg h,if_neg h,if_neg h,Int.add_assoc]
theorem start_three (s cor:List Int) (a b c:Int):startOf s cor [a,b,c] 0 0 []=(offS s cor a 0+offS s cor b 1+offS s cor c 2,[sgnS a,sgnS b,sgnS c]):=by
 rw [start_one,start_one,start_one,Int.zero_add];rfl
noncomputable def flN (v n m:Nat):Nat:=if v % 2=0 then m else n - 1 - m
theorem flN_lt {v n m:Nat} (h:m < n):flN v n m < n:=by
 unfold flN;split <;> omega
theorem flN_flN {v n m:Nat} (h:m < n):flN v n (flN v n m)=m:=by
 unfold flN;split <;> omega
theorem axis_sum {s cor:List Int} {v k n m x:Nat} (hc:cor.getD (v / 2) 0=(x:Int)) (hs:s.getD k 0=(n:Int)) (hm:m < n):offS s cor (v:Int) k+(m:Int)*sgnS (v:Int)=stride (v:Int)*((x+flN v n m:Nat):Int):=by
 unfold offS sgnS flN;rw [show (((v:Int) / 2).toNat)=v / 2 by omega,hc,hs];by_cases h:v % 2=0
 · have h':(v:Int) % 2=0:=by omega
   rw [if_pos h,if_pos h',if_pos h',Int.add_zero,← Int.add_mul,Int.mul_comm];congr 1
 · have h':¬ (v:Int) % 2=0:=by omega
   rw [if_neg h,if_neg h',if_neg h'];generalize stride (v:Int)=S;have e:((x+(n - 1 - m):Nat):Int)=(x:Int)+((n:Int) - 1 - (m:Int)):=by omega
   rw [e,Int.mul_neg,Int.mul_comm S,Int.add_mul,Int.sub_mul,Int.sub_mul,Int.sub_mul];omega
theorem put_mem {p:Jo.Part} {u:Jo.Put} {z:Int} (W:(toP p).2.Wf) (hb:∀ b∈p.cuts,InB p.w p.d p.h b) (hu:Jo.upOf u.right u.back < 6) (ha:u.right < 6) (hbk:u.back < 6) :
   z∈putCells (toP p).2 (toU u)↔∃ i j k,i < p.w∧j < p.d∧k < p.h∧(p.cuts.any fun b=>b.has (i,j,k))=false ∧
     z=stride (u.right:Int)*((([u.x,u.y,u.z].getD (u.right / 2) 0)+flN u.right p.w i:Nat):Int)+stride (u.back:Int)*((([u.x,u.y,u.z].getD (u.back / 2) 0)+flN u.back p.d j:Nat):Int)+stride ((Jo.upOf u.right u.back:Nat):Int)*((([u.x,u.y,u.z].getD (Jo.upOf u.right u.back / 2) 0)+flN (Jo.upOf u.right u.back) p.h k:Nat):Int):=by
 have corD:∀ v,v < 6→([(u.x:Int),(u.y:Int),(u.z:Int)]).getD (v / 2) 0=(([u.x,u.y,u.z].getD (v / 2) 0:Nat):Int):=fun v hv=>by
   have:v / 2=0∨v / 2=1∨v / 2=2:=by omega
   rcases this with q | q | q <;> rw [q] <;> rfl
 have e0:putCells (toP p).2 (toU u)=rowsCells p.w p.d (offS [(p.w:Int),(p.d:Int),(p.h:Int)] [(u.x:Int),(u.y:Int),(u.z:Int)] (u.right:Int) 0+offS [(p.w:Int),(p.d:Int),(p.h:Int)] [(u.x:Int),(u.y:Int),(u.z:Int)] (u.back:Int) 1+offS [(p.w:Int),(p.d:Int),(p.h:Int)] [(u.x:Int),(u.y:Int),(u.z:Int)] ((Jo.upOf u.right u.back:Nat):Int) 2) [sgnS (u.right:Int),sgnS (u.back:Int),sgnS ((Jo.upOf u.right u.back:Nat):Int)] 0 (rowsOf p.w p.d p.h p.cuts):=by
   have e1:putCells (toP p).2 (toU u)=rowsCells p.w p.d (startOf [(p.w:Int),(p.d:Int),(p.h:Int)] [(u.x:Int),(u.y:Int),(u.z:Int)] [(u.right:Int),(u.back:Int),((Jo.upOf u.right u.back:Nat):Int)] 0 0 []).1 (startOf [(p.w:Int),(p.d:Int),(p.h:Int)] [(u.x:Int),(u.y:Int),(u.z:Int)] [(u.right:Int),(u.back:Int),((Jo.upOf u.right u.back:Nat):Int)] 0 0 []).2 0 (rowsOf p.w p.d p.h p.cuts):=rfl;rw [e1,start_three]
 have hlen:(rowsOf p.w p.d p.h p.cuts).length=p.d*p.h:=W.len;have hd:0 < p.d:=W.d.1;rw [e0,rows_mem]
 have key:∀ i j k,i < p.w→j < p.d→k < p.h→(offS [(p.w:Int),(p.d:Int),(p.h:Int)] [(u.x:Int),(u.y:Int),(u.z:Int)] (u.right:Int) 0+offS [(p.w:Int),(p.d:Int),(p.h:Int)] [(u.x:Int),(u.y:Int),(u.z:Int)] (u.back:Int) 1+offS [(p.w:Int),(p.d:Int),(p.h:Int)] [(u.x:Int),(u.y:Int),(u.z:Int)] ((Jo.upOf u.right u.back:Nat):Int) 2)+(j:Int)*sgnS (u.back:Int)+(k:Int)*sgnS ((Jo.upOf u.right u.back:Nat):Int)+(i:Int)*sgnS (u.right:Int)=stride (u.right:Int)*((([u.x,u.y,u.z].getD (u.right / 2) 0)+flN u.right p.w i:Nat):Int)+stride (u.back:Int)*((([u.x,u.y,u.z].getD (u.back / 2) 0)+flN u.back p.d j:Nat):Int)+stride ((Jo.upOf u.right u.back:Nat):Int)*((([u.x,u.y,u.z].getD (Jo.upOf u.right u.back / 2) 0)+flN (Jo.upOf u.right u.back) p.h k:Nat):Int):=fun i j k hi hj hk=>by
   rw [← axis_sum (s:=[(p.w:Int),(p.d:Int),(p.h:Int)]) (k:=0) (corD u.right ha) rfl hi,← axis_sum (s:=[(p.w:Int),(p.d:Int),(p.h:Int)]) (k:=1) (corD u.back hbk) rfl hj,← axis_sum (s:=[(p.w:Int),(p.d:Int),(p.h:Int)]) (k:=2) (corD _ hu) rfl hk];omega
 constructor
 · rintro ⟨t,x,ht,hx,hbit,rfl⟩;rw [hlen] at ht;have hj:t % p.d < p.d:=Nat.mod_lt _ hd;have hk:t / p.d < p.h:=by rw [Nat.div_lt_iff_lt_mul hd,Nat.mul_comm]; exact ht
   have et:t % p.d+p.d*(t / p.d)=t:=Nat.mod_add_div t p.d;refine ⟨x,t % p.d,t / p.d,hx,hj,hk,?_,?_⟩
   · rw [← et,rows_bit hb hx hj hk] at hbit
     simpa using hbit
   · rw [← key x (t % p.d) (t / p.d) hx hj hk,Nat.zero_add,Int.natCast_emod,Int.natCast_ediv]
 · rintro ⟨i,j,k,hi,hj,hk,hok,rfl⟩;refine ⟨j+p.d*k,i,by rw [hlen]; exact at_lt hj hk,hi,by rw [rows_bit hb hi hj hk,hok]; rfl,?_⟩;rw [← key i j k hi hj hk,Nat.zero_add,← Int.natCast_emod,← Int.natCast_ediv,Nat.add_mul_mod_self_left,Nat.mod_eq_of_lt hj,Nat.add_mul_div_left _ _ hd,Nat.div_eq_of_lt hj,Nat.zero_add]
theorem bits_at {sx sy sz a b c:Nat} (f:Jo.Cell→Bool) (h1:a < sx) (h2:b < sy) (h3:c < sz):(((Jo.places sx sy sz).map f).toArray).getD (Jo.gridAt sx sy (a,b,c)) false=f (a,b,c):=by
 rw [Array.getD_eq_getD_getElem?,List.getElem?_toArray,List.getElem?_map,places_at h1 h2 h3];rfl
theorem has_gen (u:Jo.Put) (p:Jo.Part) (cx cy cz:Nat):(u.solid p).has (cx,cy,cz)=true↔(u.x≤cx∧cx < u.x+p.length (u.axisAt 0))∧(u.y≤cy∧cy < u.y+p.length (u.axisAt 1))∧(u.z≤cz∧cz < u.z+p.length (u.axisAt 2)) ∧
   (Jo.woodOf p.w p.d p.h p.cuts).getD (Jo.gridAt p.w p.d ((fun (q x y z:Nat)=>if u.axisAt 0=q then x else if u.axisAt 1=q then y else z) 0 (flN (u.way (u.axisAt 0)) (p.length (u.axisAt 0)) (cx - u.x)) (flN (u.way (u.axisAt 1)) (p.length (u.axisAt 1)) (cy - u.y)) (flN (u.way (u.axisAt 2)) (p.length (u.axisAt 2)) (cz - u.z)),
     (fun (q x y z:Nat)=>if u.axisAt 0=q then x else if u.axisAt 1=q then y else z) 1 (flN (u.way (u.axisAt 0)) (p.length (u.axisAt 0)) (cx - u.x)) (flN (u.way (u.axisAt 1)) (p.length (u.axisAt 1)) (cy - u.y)) (flN (u.way (u.axisAt 2)) (p.length (u.axisAt 2)) (cz - u.z)),
     (fun (q x y z:Nat)=>if u.axisAt 0=q then x else if u.axisAt 1=q then y else z) 2 (flN (u.way (u.axisAt 0)) (p.length (u.axisAt 0)) (cx - u.x)) (flN (u.way (u.axisAt 1)) (p.length (u.axisAt 1)) (cy - u.y)) (flN (u.way (u.axisAt 2)) (p.length (u.axisAt 2)) (cz - u.z)))) false=true:=by
 have fl:∀ v n m:Nat,(if (v % 2 == 1)=true then n - 1 - m else m)=flN v n m:=fun v n m=>by
   unfold flN;have h2:v % 2=0∨v % 2=1:=by omega
   rcases h2 with q | q <;> simp [q]
 unfold Jo.Solid.has;simp only [Bool.and_eq_true,decide_eq_true_eq];have ec:(u.solid p).corner=(u.x,u.y,u.z):=rfl;have es:(u.solid p).span=(p.length (u.axisAt 0),p.length (u.axisAt 1),p.length (u.axisAt 2)):=rfl;rw [ec,es];simp only;constructor
 · rintro ⟨h1,h2,h3,h4,h5,h6,h7⟩;refine ⟨⟨h1,h4⟩,⟨h2,h5⟩,⟨h3,h6⟩,?_⟩
   have h7:(((Jo.places (p.length (u.axisAt 0)) (p.length (u.axisAt 1)) (p.length (u.axisAt 2))).map fun (c:Jo.Cell) =>
     (Jo.woodOf p.w p.d p.h p.cuts).getD (Jo.gridAt p.w p.d ((fun (q x y z:Nat)=>if u.axisAt 0=q then x else if u.axisAt 1=q then y else z) 0 (if (u.way (u.axisAt 0) % 2 == 1)=true then p.length (u.axisAt 0) - 1 - c.1 else c.1) (if (u.way (u.axisAt 1) % 2 == 1)=true then p.length (u.axisAt 1) - 1 - c.2.1 else c.2.1) (if (u.way (u.axisAt 2) % 2 == 1)=true then p.length (u.axisAt 2) - 1 - c.2.2 else c.2.2),
       (fun (q x y z:Nat)=>if u.axisAt 0=q then x else if u.axisAt 1=q then y else z) 1 (if (u.way (u.axisAt 0) % 2 == 1)=true then p.length (u.axisAt 0) - 1 - c.1 else c.1) (if (u.way (u.axisAt 1) % 2 == 1)=true then p.length (u.axisAt 1) - 1 - c.2.1 else c.2.1) (if (u.way (u.axisAt 2) % 2 == 1)=true then p.length (u.axisAt 2) - 1 - c.2.2 else c.2.2),
       (fun (q x y z:Nat)=>if u.axisAt 0=q then x else if u.axisAt 1=q then y else z) 2 (if (u.way (u.axisAt 0) % 2 == 1)=true then p.length (u.axisAt 0) - 1 - c.1 else c.1) (if (u.way (u.axisAt 1) % 2 == 1)=true then p.length (u.axisAt 1) - 1 - c.2.1 else c.2.1) (if (u.way (u.axisAt 2) % 2 == 1)=true then p.length (u.axisAt 2) - 1 - c.2.2 else c.2.2))) false).toArray).getD (Jo.gridAt (p.length (u.axisAt 0)) (p.length (u.axisAt 1)) (cx - u.x,cy - u.y,cz - u.z)) false=true:=h7
   rw [bits_at _ (by omega) (by omega) (by omega)] at h7;simp only [fl] at h7;exact h7
 · rintro ⟨⟨h1,h4⟩,⟨h2,h5⟩,⟨h3,h6⟩,h7⟩;refine ⟨h1,h2,h3,h4,h5,h6,?_⟩
   show (((Jo.places (p.length (u.axisAt 0)) (p.length (u.axisAt 1)) (p.length (u.axisAt 2))).map fun (c:Jo.Cell) =>
     (Jo.woodOf p.w p.d p.h p.cuts).getD (Jo.gridAt p.w p.d ((fun (q x y z:Nat)=>if u.axisAt 0=q then x else if u.axisAt 1=q then y else z) 0 (if (u.way (u.axisAt 0) % 2 == 1)=true then p.length (u.axisAt 0) - 1 - c.1 else c.1) (if (u.way (u.axisAt 1) % 2 == 1)=true then p.length (u.axisAt 1) - 1 - c.2.1 else c.2.1) (if (u.way (u.axisAt 2) % 2 == 1)=true then p.length (u.axisAt 2) - 1 - c.2.2 else c.2.2),
       (fun (q x y z:Nat)=>if u.axisAt 0=q then x else if u.axisAt 1=q then y else z) 1 (if (u.way (u.axisAt 0) % 2 == 1)=true then p.length (u.axisAt 0) - 1 - c.1 else c.1) (if (u.way (u.axisAt 1) % 2 == 1)=true then p.length (u.axisAt 1) - 1 - c.2.1 else c.2.1) (if (u.way (u.axisAt 2) % 2 == 1)=true then p.length (u.axisAt 2) - 1 - c.2.2 else c.2.2),
       (fun (q x y z:Nat)=>if u.axisAt 0=q then x else if u.axisAt 1=q then y else z) 2 (if (u.way (u.axisAt 0) % 2 == 1)=true then p.length (u.axisAt 0) - 1 - c.1 else c.1) (if (u.way (u.axisAt 1) % 2 == 1)=true then p.length (u.axisAt 1) - 1 - c.2.1 else c.2.1) (if (u.way (u.axisAt 2) % 2 == 1)=true then p.length (u.axisAt 2) - 1 - c.2.2 else c.2.2))) false).toArray).getD (Jo.gridAt (p.length (u.axisAt 0)) (p.length (u.axisAt 1)) (cx - u.x,cy - u.y,cz - u.z)) false=true
   rw [bits_at _ (by omega) (by omega) (by omega)];simp only [fl];exact h7
theorem stride0 {v:Nat} (h:v / 2=0):stride (v:Int)=1:=by
 unfold stride;rw [if_pos (by omega)]
theorem stride1 {v:Nat} (h:v / 2=1):stride (v:Int)=64:=by
 unfold stride;rw [if_neg (by omega),if_pos (by omega)]
theorem stride2 {v:Nat} (h:v / 2=2):stride (v:Int)=4096:=by
 unfold stride;rw [if_neg (by omega),if_neg (by omega)]
noncomputable def SolZ (s:Jo.Solid) (z:Int):Prop:=∃ c:Jo.Cell,s.has c=true∧z=(Jo.gridPlace c:Int)
theorem grid_num (a b c:Nat):((Jo.gridPlace (a,b,c):Nat):Int)=(a:Int)+64*(b:Int)+4096*(c:Int):=by
 show ((a+64*(b+64*c):Nat):Int)=_;omega
noncomputable abbrev sel (u:Jo.Put) (q x y z:Nat):Nat:=if u.axisAt 0=q then x else if u.axisAt 1=q then y else z
theorem sol_any {p:Jo.Part} {u:Jo.Put} {z:Int}:SolZ (u.solid p) z↔∃ a b c,a < p.length (u.axisAt 0)∧b < p.length (u.axisAt 1)∧c < p.length (u.axisAt 2) ∧
   (Jo.woodOf p.w p.d p.h p.cuts).getD (Jo.gridAt p.w p.d (sel u 0 a b c,sel u 1 a b c,sel u 2 a b c)) false=true ∧
   z=((u.x+flN (u.way (u.axisAt 0)) (p.length (u.axisAt 0)) a:Nat):Int)+64*((u.y+flN (u.way (u.axisAt 1)) (p.length (u.axisAt 1)) b:Nat):Int)+4096*((u.z+flN (u.way (u.axisAt 2)) (p.length (u.axisAt 2)) c:Nat):Int):=by
 have sub:∀ {x l c:Nat},x≤c→c < x+l→c - x < l:=fun h1 h2=>by omega
 have back:∀ {v x l c:Nat},x≤c→c < x+l→x+flN v l (flN v l (c - x))=c:=fun h1 h2=>by rw [flN_flN (sub h1 h2)]; omega
 have up:∀ {v x l a:Nat},a < l→x≤x+flN v l a∧x+flN v l a < x+l:=fun {v x l a} h=>⟨Nat.le_add_right _ _,Nat.add_lt_add_left (flN_lt h) _⟩;constructor
 · rintro ⟨⟨cx,cy,cz⟩,hc,rfl⟩;obtain ⟨⟨x1,x2⟩,⟨y1,y2⟩,⟨z1,z2⟩,hw⟩:=(has_gen u p cx cy cz).mp hc;refine ⟨_,_,_,flN_lt (sub x1 x2),flN_lt (sub y1 y2),flN_lt (sub z1 z2),hw,?_⟩;rw [back x1 x2,back y1 y2,back z1 z2];exact grid_num cx cy cz
 · rintro ⟨a,b,c,ha,hb,hc,hw,rfl⟩;refine ⟨(_,_,_),(has_gen u p _ _ _).mpr ⟨up ha,up hb,up hc,?_⟩,(grid_num _ _ _).symm⟩;rw [Nat.add_sub_cancel_left,Nat.add_sub_cancel_left,Nat.add_sub_cancel_left,flN_flN ha,flN_flN hb,flN_flN hc];exact hw
theorem axis_of {u:Jo.Put} {a b c:Nat} (h0:u.right / 2=a) (h1:u.back / 2=b) (h2:Jo.upOf u.right u.back / 2=c) (g:Nat):u.axisAt g=((List.range 3).find? fun (q:Nat)=>[a,b,c].getD q 0 == g).getD 0:=by
 unfold Jo.Put.axisAt;have w0:u.way 0=u.right:=rfl;have w1:u.way 1=u.back:=rfl;have w2:u.way 2=Jo.upOf u.right u.back:=rfl;simp only [List.range,List.range.loop,List.find?_cons,w0,w1,w2,h0,h1,h2,List.getD_cons_zero,List.getD_cons_succ,List.find?_nil]
theorem sum_012 (A B C:Int):1*A+64*B+4096*C=A+64*B+4096*C:=by omega
theorem sol_012 {p:Jo.Part} {u:Jo.Put} {z:Int} (h0:u.right / 2=0) (h1:u.back / 2=1) (h2:Jo.upOf u.right u.back / 2=2) :
   (∃ i j k,i < p.w∧j < p.d∧k < p.h∧(p.cuts.any fun b=>b.has (i,j,k))=false ∧
     z=stride (u.right:Int)*((([u.x,u.y,u.z].getD (u.right / 2) 0)+flN u.right p.w i:Nat):Int)+stride (u.back:Int)*((([u.x,u.y,u.z].getD (u.back / 2) 0)+flN u.back p.d j:Nat):Int)+stride ((Jo.upOf u.right u.back:Nat):Int)*((([u.x,u.y,u.z].getD (Jo.upOf u.right u.back / 2) 0)+flN (Jo.upOf u.right u.back) p.h k:Nat):Int))↔SolZ (u.solid p) z:=by
 have A0:u.axisAt 0=0:=axis_of h0 h1 h2 0;have A1:u.axisAt 1=1:=axis_of h0 h1 h2 1;have A2:u.axisAt 2=2:=axis_of h0 h1 h2 2;rw [sol_any,stride0 h0,stride1 h1,stride2 h2,h0,h1,h2];unfold sel;rw [A0,A1,A2];constructor
 · rintro ⟨i,j,k,hi,hj,hk,hok,rfl⟩;refine ⟨i,j,k,hi,hj,hk,?_,sum_012 _ _ _⟩;show (Jo.woodOf p.w p.d p.h p.cuts).getD (Jo.gridAt p.w p.d (i,j,k)) false=true;rw [wood_at hi hj hk,hok];rfl
 · rintro ⟨i,j,k,hi,hj,hk,hw,rfl⟩;have hw:(Jo.woodOf p.w p.d p.h p.cuts).getD (Jo.gridAt p.w p.d (i,j,k)) false=true:=hw;rw [wood_at (w:=p.w) (d:=p.d) (h:=p.h) hi hj hk,Bool.not_eq_true'] at hw;exact ⟨i,j,k,hi,hj,hk,hw,(sum_012 _ _ _).symm⟩
theorem sum_021 (A B C:Int):1*A+4096*C+64*B=A+64*B+4096*C:=by omega
theorem sol_021 {p:Jo.Part} {u:Jo.Put} {z:Int} (h0:u.right / 2=0) (h1:u.back / 2=2) (h2:Jo.upOf u.right u.back / 2=1) :
   (∃ i j k,i < p.w∧j < p.d∧k < p.h∧(p.cuts.any fun b=>b.has (i,j,k))=false ∧
     z=stride (u.right:Int)*((([u.x,u.y,u.z].getD (u.right / 2) 0)+flN u.right p.w i:Nat):Int)+stride (u.back:Int)*((([u.x,u.y,u.z].getD (u.back / 2) 0)+flN u.back p.d j:Nat):Int)+stride ((Jo.upOf u.right u.back:Nat):Int)*((([u.x,u.y,u.z].getD (Jo.upOf u.right u.back / 2) 0)+flN (Jo.upOf u.right u.back) p.h k:Nat):Int))↔SolZ (u.solid p) z:=by
 have A0:u.axisAt 0=0:=axis_of h0 h1 h2 0;have A1:u.axisAt 1=2:=axis_of h0 h1 h2 1;have A2:u.axisAt 2=1:=axis_of h0 h1 h2 2;rw [sol_any,stride0 h0,stride2 h1,stride1 h2,h0,h1,h2];unfold sel;rw [A0,A1,A2];constructor
 · rintro ⟨i,j,k,hi,hj,hk,hok,rfl⟩;refine ⟨i,k,j,hi,hk,hj,?_,sum_021 _ _ _⟩;show (Jo.woodOf p.w p.d p.h p.cuts).getD (Jo.gridAt p.w p.d (i,j,k)) false=true;rw [wood_at hi hj hk,hok];rfl
 · rintro ⟨i,k,j,hi,hk,hj,hw,rfl⟩;have hw:(Jo.woodOf p.w p.d p.h p.cuts).getD (Jo.gridAt p.w p.d (i,j,k)) false=true:=hw;rw [wood_at (w:=p.w) (d:=p.d) (h:=p.h) hi hj hk,Bool.not_eq_true'] at hw;exact ⟨i,j,k,hi,hj,hk,hw,(sum_021 _ _ _).symm⟩
theorem sum_102 (A B C:Int):64*B+1*A+4096*C=A+64*B+4096*C:=by omega
theorem sol_102 {p:Jo.Part} {u:Jo.Put} {z:Int} (h0:u.right / 2=1) (h1:u.back / 2=0) (h2:Jo.upOf u.right u.back / 2=2) :
   (∃ i j k,i < p.w∧j < p.d∧k < p.h∧(p.cuts.any fun b=>b.has (i,j,k))=false ∧
     z=stride (u.right:Int)*((([u.x,u.y,u.z].getD (u.right / 2) 0)+flN u.right p.w i:Nat):Int)+stride (u.back:Int)*((([u.x,u.y,u.z].getD (u.back / 2) 0)+flN u.back p.d j:Nat):Int)+stride ((Jo.upOf u.right u.back:Nat):Int)*((([u.x,u.y,u.z].getD (Jo.upOf u.right u.back / 2) 0)+flN (Jo.upOf u.right u.back) p.h k:Nat):Int))↔SolZ (u.solid p) z:=by
 have A0:u.axisAt 0=1:=axis_of h0 h1 h2 0;have A1:u.axisAt 1=0:=axis_of h0 h1 h2 1;have A2:u.axisAt 2=2:=axis_of h0 h1 h2 2;rw [sol_any,stride1 h0,stride0 h1,stride2 h2,h0,h1,h2];unfold sel;rw [A0,A1,A2];constructor
 · rintro ⟨i,j,k,hi,hj,hk,hok,rfl⟩;refine ⟨j,i,k,hj,hi,hk,?_,sum_102 _ _ _⟩;show (Jo.woodOf p.w p.d p.h p.cuts).getD (Jo.gridAt p.w p.d (i,j,k)) false=true;rw [wood_at hi hj hk,hok];rfl
 · rintro ⟨j,i,k,hj,hi,hk,hw,rfl⟩;have hw:(Jo.woodOf p.w p.d p.h p.cuts).getD (Jo.gridAt p.w p.d (i,j,k)) false=true:=hw;rw [wood_at (w:=p.w) (d:=p.d) (h:=p.h) hi hj hk,Bool.not_eq_true'] at hw;exact ⟨i,j,k,hi,hj,hk,hw,(sum_102 _ _ _).symm⟩
theorem sum_120 (A B C:Int):64*B+4096*C+1*A=A+64*B+4096*C:=by omega
theorem sol_120 {p:Jo.Part} {u:Jo.Put} {z:Int} (h0:u.right / 2=1) (h1:u.back / 2=2) (h2:Jo.upOf u.right u.back / 2=0) :
   (∃ i j k,i < p.w∧j < p.d∧k < p.h∧(p.cuts.any fun b=>b.has (i,j,k))=false ∧
     z=stride (u.right:Int)*((([u.x,u.y,u.z].getD (u.right / 2) 0)+flN u.right p.w i:Nat):Int)+stride (u.back:Int)*((([u.x,u.y,u.z].getD (u.back / 2) 0)+flN u.back p.d j:Nat):Int)+stride ((Jo.upOf u.right u.back:Nat):Int)*((([u.x,u.y,u.z].getD (Jo.upOf u.right u.back / 2) 0)+flN (Jo.upOf u.right u.back) p.h k:Nat):Int))↔SolZ (u.solid p) z:=by
 have A0:u.axisAt 0=2:=axis_of h0 h1 h2 0;have A1:u.axisAt 1=0:=axis_of h0 h1 h2 1;have A2:u.axisAt 2=1:=axis_of h0 h1 h2 2;rw [sol_any,stride1 h0,stride2 h1,stride0 h2,h0,h1,h2];unfold sel;rw [A0,A1,A2];constructor
 · rintro ⟨i,j,k,hi,hj,hk,hok,rfl⟩;refine ⟨k,i,j,hk,hi,hj,?_,sum_120 _ _ _⟩;show (Jo.woodOf p.w p.d p.h p.cuts).getD (Jo.gridAt p.w p.d (i,j,k)) false=true;rw [wood_at hi hj hk,hok];rfl
 · rintro ⟨k,i,j,hk,hi,hj,hw,rfl⟩;have hw:(Jo.woodOf p.w p.d p.h p.cuts).getD (Jo.gridAt p.w p.d (i,j,k)) false=true:=hw;rw [wood_at (w:=p.w) (d:=p.d) (h:=p.h) hi hj hk,Bool.not_eq_true'] at hw;exact ⟨i,j,k,hi,hj,hk,hw,(sum_120 _ _ _).symm⟩
theorem sum_201 (A B C:Int):4096*C+1*A+64*B=A+64*B+4096*C:=by omega
theorem sol_201 {p:Jo.Part} {u:Jo.Put} {z:Int} (h0:u.right / 2=2) (h1:u.back / 2=0) (h2:Jo.upOf u.right u.back / 2=1) :
   (∃ i j k,i < p.w∧j < p.d∧k < p.h∧(p.cuts.any fun b=>b.has (i,j,k))=false ∧
     z=stride (u.right:Int)*((([u.x,u.y,u.z].getD (u.right / 2) 0)+flN u.right p.w i:Nat):Int)+stride (u.back:Int)*((([u.x,u.y,u.z].getD (u.back / 2) 0)+flN u.back p.d j:Nat):Int)+stride ((Jo.upOf u.right u.back:Nat):Int)*((([u.x,u.y,u.z].getD (Jo.upOf u.right u.back / 2) 0)+flN (Jo.upOf u.right u.back) p.h k:Nat):Int))↔SolZ (u.solid p) z:=by
 have A0:u.axisAt 0=1:=axis_of h0 h1 h2 0;have A1:u.axisAt 1=2:=axis_of h0 h1 h2 1;have A2:u.axisAt 2=0:=axis_of h0 h1 h2 2;rw [sol_any,stride2 h0,stride0 h1,stride1 h2,h0,h1,h2];unfold sel;rw [A0,A1,A2];constructor
 · rintro ⟨i,j,k,hi,hj,hk,hok,rfl⟩;refine ⟨j,k,i,hj,hk,hi,?_,sum_201 _ _ _⟩;show (Jo.woodOf p.w p.d p.h p.cuts).getD (Jo.gridAt p.w p.d (i,j,k)) false=true;rw [wood_at hi hj hk,hok];rfl
 · rintro ⟨j,k,i,hj,hk,hi,hw,rfl⟩;have hw:(Jo.woodOf p.w p.d p.h p.cuts).getD (Jo.gridAt p.w p.d (i,j,k)) false=true:=hw;rw [wood_at (w:=p.w) (d:=p.d) (h:=p.h) hi hj hk,Bool.not_eq_true'] at hw;exact ⟨i,j,k,hi,hj,hk,hw,(sum_201 _ _ _).symm⟩
theorem sum_210 (A B C:Int):4096*C+64*B+1*A=A+64*B+4096*C:=by omega
theorem sol_210 {p:Jo.Part} {u:Jo.Put} {z:Int} (h0:u.right / 2=2) (h1:u.back / 2=1) (h2:Jo.upOf u.right u.back / 2=0) :
   (∃ i j k,i < p.w∧j < p.d∧k < p.h∧(p.cuts.any fun b=>b.has (i,j,k))=false ∧
     z=stride (u.right:Int)*((([u.x,u.y,u.z].getD (u.right / 2) 0)+flN u.right p.w i:Nat):Int)+stride (u.back:Int)*((([u.x,u.y,u.z].getD (u.back / 2) 0)+flN u.back p.d j:Nat):Int)+stride ((Jo.upOf u.right u.back:Nat):Int)*((([u.x,u.y,u.z].getD (Jo.upOf u.right u.back / 2) 0)+flN (Jo.upOf u.right u.back) p.h k:Nat):Int))↔SolZ (u.solid p) z:=by
 have A0:u.axisAt 0=2:=axis_of h0 h1 h2 0;have A1:u.axisAt 1=1:=axis_of h0 h1 h2 1;have A2:u.axisAt 2=0:=axis_of h0 h1 h2 2;rw [sol_any,stride2 h0,stride1 h1,stride0 h2,h0,h1,h2];unfold sel;rw [A0,A1,A2];constructor
 · rintro ⟨i,j,k,hi,hj,hk,hok,rfl⟩;refine ⟨k,j,i,hk,hj,hi,?_,sum_210 _ _ _⟩;show (Jo.woodOf p.w p.d p.h p.cuts).getD (Jo.gridAt p.w p.d (i,j,k)) false=true;rw [wood_at hi hj hk,hok];rfl
 · rintro ⟨k,j,i,hk,hj,hi,hw,rfl⟩;have hw:(Jo.woodOf p.w p.d p.h p.cuts).getD (Jo.gridAt p.w p.d (i,j,k)) false=true:=hw;rw [wood_at (w:=p.w) (d:=p.d) (h:=p.h) hi hj hk,Bool.not_eq_true'] at hw;exact ⟨i,j,k,hi,hj,hk,hw,(sum_210 _ _ _).symm⟩
theorem up_axis:∀ a b:Fin 6,a.val / 2≠b.val / 2→Jo.upOf a.val b.val < 6∧Jo.upOf a.val b.val / 2≠a.val / 2∧Jo.upOf a.val b.val / 2≠b.val / 2:=by decide +kernel
theorem cells_sol {p:Jo.Part} {u:Jo.Put} (W:(toP p).2.Wf) (hb:∀ b∈p.cuts,InB p.w p.d p.h b) (ha:u.right < 6) (hbk:u.back < 6) (hab:u.right / 2≠u.back / 2) (z:Int):z∈putCells (toP p).2 (toU u)↔SolZ (u.solid p) z:=by
 obtain ⟨u1,u2,u3⟩:=up_axis ⟨u.right,ha⟩ ⟨u.back,hbk⟩ hab;simp only at u1 u2 u3;rw [put_mem W hb u1 ha hbk];have q0:u.right / 2=0∨u.right / 2=1∨u.right / 2=2:=by omega
 have q1:u.back / 2=0∨u.back / 2=1∨u.back / 2=2:=by omega
 have q2:Jo.upOf u.right u.back / 2=0∨Jo.upOf u.right u.back / 2=1∨Jo.upOf u.right u.back / 2=2:=by omega
 rcases q0 with e0 | e0 | e0 <;> rcases q1 with e1 | e1 | e1 <;> rcases q2 with e2 | e2 | e2 <;>
   first
   | exact sol_012 e0 e1 e2
   | exact sol_021 e0 e1 e2
   | exact sol_102 e0 e1 e2
   | exact sol_120 e0 e1 e2
   | exact sol_201 e0 e1 e2
   | exact sol_210 e0 e1 e2
   | (exfalso; omega)
end Ho
end
section
set_option Elab.async false
set_option linter.all false
namespace Ho
open Jo (Bytes)
noncomputable def Inside (w:Jo.Work):Prop:=∀ p∈w.parts,∀ b∈p.cuts,InB p.w p.d p.h b
theorem inside_add {w:Jo.Work} {x:Jo.WorkLine} (I:Inside w) (h:wrongW w x=0):Inside (addW w x):=by
 cases x with
 | own l =>
   cases l with
   | part n a b c g =>
     intro p hp;have hp:p∈w.parts++[⟨n,a,b,c,g,[]⟩]:=hp;rcases List.mem_append.mp hp with q | q
     · exact I p q
     · rw [List.mem_singleton.mp q];intro b hb
       cases hb
   | cut e =>
     cases hl:w.parts.getLast? with
     | none =>
       have h:wrongW w (.own (.cut e))=0:=h;unfold wrongW at h;rw [hl] at h
       cases h
     | some p =>
       have h:wrongW w (.own (.cut e))=0:=h;unfold wrongW at h;rw [hl] at h;simp only at h;intro q hq;have hq:q∈w.parts.dropLast++[{ (w.parts.getLast?).getD Jo.noPart with cuts:=((w.parts.getLast?).getD Jo.noPart).cuts++[e] }]:=hq;rw [hl] at hq;rcases List.mem_append.mp hq with z | z
       · exact I q ((List.dropLast_sublist w.parts).subset z)
       · rw [List.mem_singleton.mp z];intro b hb;have hb:b∈p.cuts++[e]:=hb;rcases List.mem_append.mp hb with y | y
         · exact I p (List.mem_of_getLast? hl) b y
         · rw [List.mem_singleton.mp y];by_cases hc:p.w < e.x+e.w∨p.d < e.y+e.d∨p.h < e.z+e.h
           · rw [if_pos hc] at h;split at h <;> cases h
           · show e.x+e.w≤p.w∧e.y+e.d≤p.d∧e.z+e.h≤p.h
             omega
 | put n a b c d e=>exact I
theorem inside_from (isB:Bool):∀ (ls:List Bytes) (k:Nat) (l l':List Jo.WorkLine),Inside (Jo.workOf l)→Jo.workFrom isB k l ls = .ok l'→Inside (Jo.workOf l')
 | [],k,l,l',I,h=>by
   have h:Except.ok l=Except.ok l':=h;injection h with h;rw [← h]
   exact I
 | b :: r,k,l,l',I,h=>by
   have hw:Jo.workFrom isB k l (b :: r)=match (if isB && r.isEmpty then none else Jo.workLineIn b) with | none=>.error (k,1) | some x=>if Jo.wrongLine l x=0 then Jo.workFrom isB (k+1) (l++[x]) r else .error (k,Jo.wrongLine l x):=rfl
   rw [hw] at h;split at h
   · cases h
   · rename_i x _
     split at h
     · rename_i h0
       refine inside_from isB r (k+1) (l++[x]) l' ?_ h;rw [workOf_snoc];exact inside_add I (by rw [← wrong_eq]; exact h0)
     · cases h
theorem inside_read {t:Bytes} {w:Jo.Work} (h:Jo.readWork t = .ok w):Inside w:=by
 have hR:Jo.readWork t=(Jo.workFrom (bare t) 0 [] (Jo.splitLines t)).map Jo.workOf:=rfl;rw [hR] at h
 cases hF:Jo.workFrom (bare t) 0 [] (Jo.splitLines t) with
 | error e =>
   rw [hF] at h
   cases h
 | ok l =>
   rw [hF] at h;have h:Except.ok (Jo.workOf l)=Except.ok w:=h;injection h with h;rw [← h];exact inside_from _ _ _ [] _ (fun p hp=>by cases hp) hF
structure Good (w:Jo.Work):Prop where
 wf:(toM w).Wf
 ins:Inside w
theorem cell_at (m:MW) {k:Nat} (h:k < m.puts.length):m.cells[k]? = some (putCells (m.pt (m.pu k).part) (m.pu k)):=by
 unfold MW.cells MW.pt MW.pu;rw [List.getElem?_map,getD_at ⟨0,[],[]⟩ h];rfl
section
variable {w:Jo.Work}
theorem Good.put (G:Good w) {i:Nat} (hi:i < w.puts.length):∃ u p,w.puts[i]? = some u∧w.parts[u.part]? = some p∧w.part i=p∧w.solid i=u.solid p∧ce (toM w).cells i=putCells (toP p).2 (toU u)∧(toP p).2.Wf∧(∀ b∈p.cuts,InB p.w p.d p.h b)∧u.right < 6∧u.back < 6∧u.right / 2≠u.back / 2∧u.x≤48∧u.y≤48∧u.z≤48:=by
 have hl:(toM w).puts.length=w.puts.length:=by unfold toM; simp
 have hlp:(toM w).parts.length=w.parts.length:=by unfold toM; simp
 have hi':i < (toM w).puts.length:=by omega
 obtain ⟨u,hu⟩:∃ u,w.puts[i]? = some u:=⟨_,List.getElem?_eq_getElem hi⟩
 have epu:(toM w).pu i=toU u:=by
   unfold MW.pu toM;rw [List.getD_eq_getElem?_getD,List.getElem?_map,hu];rfl
 have W:=G.wf.pu hi';rw [epu] at W;have hpl:u.part < w.parts.length:=by rw [← hlp]; exact W.part
 obtain ⟨p,hp⟩:∃ p,w.parts[u.part]? = some p:=⟨_,List.getElem?_eq_getElem hpl⟩
 have ept:(toM w).pt u.part=(toP p).2:=by
   unfold MW.pt toM;rw [List.getD_eq_getElem?_getD,List.getElem?_map,hp];rfl
 have epart:w.part i=p:=by
   unfold Jo.Work.part;rw [hu];show (w.parts[u.part]?).getD Jo.noPart=p;rw [hp];rfl
 have esol:w.solid i=u.solid p:=by
   unfold Jo.Work.solid;rw [hu];show u.solid (w.part i)=_;rw [epart]
 have ecel:ce (toM w).cells i=putCells (toP p).2 (toU u):=by
   show (toM w).cells.getD i []=_;rw [List.getD_eq_getElem?_getD,cell_at (toM w) hi',epu];show putCells ((toM w).pt u.part) (toU u)=_;rw [ept]
 have Wp:(toP p).2.Wf:=by
   rw [← ept];exact G.wf.pt (by rw [hlp]; exact hpl)
 obtain ⟨a,b,ha,hb,hab,eW⟩:=W.ways;obtain ⟨x,y,z,hx,hy,hz,eC⟩:=W.cor;have eW:[(u.right:Int),(u.back:Int),((Jo.upOf u.right u.back:Nat):Int)]=[(a:Int),(b:Int),((Jo.upOf a b:Nat):Int)]:=eW;have eC:[(u.x:Int),(u.y:Int),(u.z:Int)]=[(x:Int),(y:Int),(z:Int)]:=eC;simp only [List.cons.injEq,and_true] at eW eC;obtain ⟨e1,e2,_⟩:=eW;obtain ⟨e3,e4,e5⟩:=eC;have r1:u.right=a:=by omega
 have r2:u.back=b:=by omega
 exact ⟨u,p,hu,hp,epart,esol,ecel,Wp,G.ins p (List.mem_of_getElem? hp),by omega,by omega,by rw [r1,r2]; exact hab,by omega,by omega,by omega⟩
theorem Good.mem (G:Good w) {i:Nat} (hi:i < w.puts.length) (z:Int):z∈ce (toM w).cells i↔SolZ (w.solid i) z:=by
 obtain ⟨u,p,_,_,_,es,ec,Wp,hb,a1,a2,a3,_⟩:=G.put hi;rw [ec,es];exact cells_sol Wp hb a1 a2 a3 z
theorem len16 {p:Jo.Part} (W:(toP p).2.Wf) (t:Nat):p.length t≤16:=by
 have h1:p.w≤16:=W.w.2;have h2:p.d≤16:=W.d.2;have h3:p.h≤16:=W.h.2;unfold Jo.Part.length;split
 · exact h1
 · exact h2
 · exact h3
theorem Good.bound (G:Good w) {i:Nat} (hi:i < w.puts.length) {c:Jo.Cell} (h:(w.solid i).has c=true):c.1 < 64∧c.2.1 < 64∧c.2.2 < 64:=by
 obtain ⟨u,p,_,_,_,es,_,Wp,_,_,_,_,x1,y1,z1⟩:=G.put hi;obtain ⟨cx,cy,cz⟩:=c;rw [es,has_gen] at h;obtain ⟨⟨_,q1⟩,⟨_,q2⟩,⟨_,q3⟩,_⟩:=h;have l0:=len16 Wp (u.axisAt 0);have l1:=len16 Wp (u.axisAt 1);have l2:=len16 Wp (u.axisAt 2);simp only;omega
theorem grid64 {c e:Jo.Cell} (hc:c.1 < 64∧c.2.1 < 64∧c.2.2 < 64) (he:e.1 < 64∧e.2.1 < 64∧e.2.2 < 64) (h:Jo.gridPlace c=Jo.gridPlace e):c=e:=by
 obtain ⟨a,b,d⟩:=c;obtain ⟨a',b',d'⟩:=e;have h:a+64*(b+64*d)=a'+64*(b'+64*d'):=h;simp only at hc he;have e1:a=a':=by omega
 have e2:b=b':=by omega
 have e3:d=d':=by omega
 rw [e1,e2,e3]
theorem Good.com (G:Good w) {i j:Nat} (hi:i < w.puts.length) (hj:j < w.puts.length):com (toM w).cells i j↔∃ c,(w.solid i).has c=true∧(w.solid j).has c=true:=by
 constructor
 · rintro ⟨z,z1,z2⟩;obtain ⟨c,hc,e1⟩:=(G.mem hi z).mp z1;obtain ⟨c',hc',e2⟩:=(G.mem hj z).mp z2;have:c=c':=grid64 (G.bound hi hc) (G.bound hj hc') (by omega);exact ⟨c,hc,by rw [this]; exact hc'⟩
 · rintro ⟨c,h1,h2⟩;exact ⟨_,(G.mem hi _).mpr ⟨c,h1,rfl⟩,(G.mem hj _).mpr ⟨c,h2,rfl⟩⟩
end
theorem sol_cells (s:Jo.Solid) (c:Jo.Cell):c∈s.cells↔s.has c=true:=by
 unfold Jo.Solid.cells;rw [List.mem_filter];refine ⟨fun h=>h.2,fun h=>⟨?_,h⟩⟩;have h':=h;unfold Jo.Solid.has at h';simp only [Bool.and_eq_true,decide_eq_true_eq] at h';obtain ⟨h1,h2,h3,h4,h5,h6,_⟩:=h';refine List.mem_map.mpr ⟨(c.1 - s.corner.1,c.2.1 - s.corner.2.1,c.2.2 - s.corner.2.2),mem_places.mpr ⟨by simp only; omega,by simp only; omega,by simp only; omega⟩,?_⟩;simp only;rw [Nat.sub_add_cancel h1,Nat.sub_add_cancel h2,Nat.sub_add_cancel h3]
theorem clash_same {w:Jo.Work} (G:Good w):firstOverlap (toM w).cells=w.clashBy:=by
 have hl:(toM w).cells.length=w.puts.length:=by
   unfold MW.cells toM;simp
 have hs:∀ i,i < w.puts.length→w.solids.getD i Jo.noSolid=w.solid i:=fun i hi=>by
   unfold Jo.Work.solids;rw [Array.getD_eq_getD_getElem?,List.getElem?_toArray,List.getElem?_map,List.getElem?_range hi];rfl
 have hcs:∀ i,i < w.puts.length→(w.solids.map Jo.Solid.cells).getD i []=(w.solid i).cells:=fun i hi=>by
   unfold Jo.Work.solids;rw [Array.getD_eq_getD_getElem?,Array.getElem?_map,List.getElem?_toArray,List.getElem?_map,List.getElem?_range hi];rfl
 unfold Jo.Work.clashBy;refine overlap_eq hl fun i j hij hj=>?_;show ((w.solids.map Jo.Solid.cells).getD i []).any (w.solids.getD j Jo.noSolid).has=true↔_;rw [hcs i (by omega),hs j hj,G.com (by omega) hj,List.any_eq_true];constructor
 · rintro ⟨c,h1,h2⟩;exact ⟨c,(sol_cells _ c).mp h1,h2⟩
 · rintro ⟨c,h1,h2⟩;exact ⟨c,(sol_cells _ c).mpr h1,h2⟩
theorem codes_bytes {ns:List Int} (hb:∀ n∈ns,0≤n∧n≤255):(ns.map fun n=>sg n.toNat)=(WqatdfNeutral.bytes ns).map sgB:=by
 unfold WqatdfNeutral.bytes;rw [List.map_map];refine List.map_congr_left fun n hn=>?_;obtain ⟨h0,h1⟩:=hb n hn;show sg n.toNat=sg (UInt8.ofNat n.toNat).toNat
 rw [UInt8.toNat_ofNat'];congr 1;omega
theorem readAll_wf:∀ (l:List Cs) (k:Nat) (m:MW),m.Wf→(readAll k m l).1.Wf
 | [],_,_,W=>W
 | x :: l,k,m,W=>by
   rw [readAll_cons];split
   · exact readLine_wf W
   · exact readAll_wf l _ _ (readLine_wf W)
theorem readText_wf (t:Cs):(readText t).1.Wf:=by
 unfold readText;simp only;split
 · exact readAll_wf _ _ _ MW.Wf.none
 · split
   · exact readAll_wf _ _ _ MW.Wf.none
   · exact readAll_wf _ _ _ MW.Wf.none
theorem good_read {t:Bytes} {w:Jo.Work} (h:Jo.readWork t = .ok w):Good w:=by
 refine ⟨?_,inside_read h⟩;have:=readText_wf (t.map sgB);rw [(text_same t).1 w h] at this;exact this
theorem work_same {ns:List Int} (hb:∀ n∈ns,0≤n∧n≤255) (f:Jo.Work→Wqatdf.Ans) :
   (∃ r,(readWork ns).1=r∧r≠[]∧(Wqatdf.ofWork (WqatdfNeutral.bytes ns) f).ret :: (Wqatdf.ofWork (WqatdfNeutral.bytes ns) f).nums.map WqatdfNeutral.int=r) ∨
   (∃ w,(readWork ns).1=[]∧Good w∧(readWork ns).2=(toM w).cells∧w.clashBy=none∧Jo.readWork (WqatdfNeutral.bytes ns) = .ok w∧Wqatdf.ofWork (WqatdfNeutral.bytes ns) f=f w):=by
 have hl:(WqatdfNeutral.bytes ns).length=ns.length:=by unfold WqatdfNeutral.bytes; rw [List.length_map]
 unfold readWork Wqatdf.ofWork;rw [hl];by_cases hbig:65536 < ns.length
 · rw [if_pos hbig,if_pos (show Wqatdf.LONGEST < ns.length from hbig)];exact .inl ⟨[-2],rfl,by simp,rfl⟩
 rw [if_neg hbig,if_neg (show ¬ Wqatdf.LONGEST < ns.length from hbig)];simp only;rw [codes_bytes hb];obtain ⟨t1,t2⟩:=text_same (WqatdfNeutral.bytes ns)
 cases hR:Jo.readWork (WqatdfNeutral.bytes ns) with
 | error e =>
   have q:=t2 e hR;rw [q,if_pos (by simp)]
   exact .inl ⟨_,rfl,by simp,rfl⟩
 | ok w =>
   have q:=t1 w hR;rw [q];simp only;rw [if_neg (fun z=>z rfl)];have G:=good_read hR;rw [clash_same G]
   cases hc:w.clashBy with
   | some p=>exact .inl ⟨_,rfl,by simp,rfl⟩
   | none=>exact .inr ⟨w,rfl,G,rfl,hc,rfl,rfl⟩
theorem judge_spec (ns:List Int) (hb:∀ n∈ns,0≤n∧n≤255):judge ns=PyWqatdf.judge ns:=by
 have e:PyWqatdf.judge ns=(Wqatdf.ofWork (WqatdfNeutral.bytes ns) fun _=>Wqatdf.says 0).ret :: (Wqatdf.ofWork (WqatdfNeutral.bytes ns) fun _=>Wqatdf.says 0).nums.map WqatdfNeutral.int:=rfl;rw [e];unfold judge;rcases work_same hb (fun _=>Wqatdf.says 0) with ⟨r,h1,h2,h3⟩ | ⟨w,h1,_,_,_,_,h3⟩
 · rw [h1,if_pos h2,h3]
 · rw [h1,if_neg (fun z=>z rfl),h3];rfl
end Ho
end
section
set_option Elab.async false
set_option linter.all false
set_option maxRecDepth 100000
namespace Ho
open PySem PySem.SeqAt
open AutoSeq1 (wpAny_loadPart')
open MeetsSeq MeetsSeq2 MeetsSeq3 SeqRoads2
theorem tuple_indexAt (l:Addr) (items:Array Value) (n:Nat) (dd:Option Addr) (sl:Array (Option Value)) (x:Value) (e:Nat→Bool) (j:Nat) (hj:j < items.size)
   (hit:e j=true) (hno:∀ m,m < j→e m=false) :
   Meets (Builtin.«tuple.index» ⟨[.ref l,x],[]⟩)
     (fun A R s=>s.heap.get? l=some { cls:=.type "tuple",dict:=dd,data:=.seq items n,slots:=sl }∧(∀ i (hi:i < items.size),EqAt A.in1 s items[i] x (e i))∧R (.ok (.ret (.int j s.toks))) { s with toks:=s.toks+1 }) :=
 .of_wp fun prog w A R s h=>by
   obtain ⟨hp,g,d,tk,os⟩:=s; obtain ⟨hl,he,h⟩:=h
   wp_walk using wpAny_loadPart' hl
   change wpAny (model prog w) A.in1 (forIn (m:=Sem) ([:min items.size items.size]:Std.Legacy.Range) ((none,()):Option Fin × Unit) (fun (i:Nat) (_:Option Fin × Unit) =>
           match items[i]? with
           | some y=>do
             let b ← eqBool y x
             if b=true then do
                 let v ← retInt (i:Int)
                 pure (ForInStep.done (some v,()))
               else pure (ForInStep.yield (none,()))
           | _=>pure (ForInStep.yield (none,())))) _ _ _
   rw [Std.Legacy.Range.forIn_eq_forIn_range'];simp only [Std.Legacy.Range.size,Nat.sub_zero,Nat.add_sub_cancel,Nat.div_one,Nat.min_self];refine wpAny_forIn_list _ (fun rest (b:Option Fin × Unit) s'=>b=(none,())∧s'=⟨hp,g,d,tk,os⟩∧∃ i,rest=List.range' i (items.size - i)∧i≤j) _ ?_ ?_ _ _ ⟨rfl,rfl,0,rfl,Nat.zero_le _⟩
   · rintro y rest b s' ⟨rfl,rfl,i,hr,hi⟩;have e1:items.size - i=(items.size - (i+1))+1:=by omega
     rw [e1,List.range'_succ] at hr;injection hr with h1 h2;subst h1 h2;have hlt:y < items.size:=by omega
     have hg:items[y]? = some items[y]:=by simp [hlt]
     rw [hg];refine wpAny_bind (he y hlt prog w _ _ ?_);by_cases hyj:y=j
     · subst hyj;rw [hit]
       wp_walk
       exact ⟨_,rfl,h⟩
     · rw [hno y (by omega)]
       wp_walk
       exact ⟨rfl,rfl,y+1,rfl,by omega⟩
   · rintro b s' ⟨rfl,rfl,i,hr,hi⟩;have:(List.range' i (items.size - i)).length=0:=by rw [← hr]; rfl
     rw [List.length_range'] at this;omega
open L2
noncomputable abbrev v3 (t:Int × Int × Int):List V:=[.int t.1,.int t.2.1,.int t.2.2]
noncomputable abbrev d3 (t:Int × Int × Int):PyData:=.tuple [.int t.1,.int t.2.1,.int t.2.2]
theorem eqv3 (t u:Int × Int × Int):PyData.eqv (d3 t) (d3 u)=decide (t=u):=by
 obtain ⟨a,b,c⟩:=t;obtain ⟨a',b',c'⟩:=u;have e:PyData.eqv (d3 (a,b,c)) (d3 (a',b',c'))=(a == a' && (b == b' && (c == c' && true))):=by simp [PyData.eqv,PyData.eqvAll]
 rw [e,Bool.eq_iff_iff];simp
theorem dp3 {K:PySem.W.Frag} {H:Hp} {p:Addr} {t:Int × Int × Int} (h:SqT K H p (v3 t)):Dp K H (.ref p) (d3 t):=.tup h (.cons (.int _) (.cons (.int _) (.cons (.int _) .nil)))
theorem can3 (t:Int × Int × Int):(d3 t).canLay0=true:=by simp [PyData.canLay0,PyData.canLayAll0]
theorem dep3 (t:Int × Int × Int):(d3 t).depth≤64:=by simp [PyData.depth,PyData.depthAll]
noncomputable def rTIndex (K:PySem.W.Frag):V→List V→Hp→VK→Prop:=fun x xs H Q=>∃ (a:Addr) (ts:List Addr) (tt:List (Int × Int × Int)) (b:Addr) (t:Int × Int × Int) (j:Nat),x = .ref a∧xs=[.ref b]∧SqT K H a (ts.map V.ref)∧ts.length=tt.length ∧
 (∀ (i:Nat) (p:Addr) (t':Int × Int × Int),ts[i]? = some p→tt[i]? = some t'→SqT K H p (v3 t'))∧SqT K H b (v3 t)∧tt[j]? = some t∧(∀ (m:Nat),m < j→∀ t',tt[m]? = some t'→t'≠t)∧Q (.int (j:Nat)) H
theorem mt_tindex {X:Cx} (hu:X.A.units+65 < cLine):MtR X "tuple.index" (rTIndex X.K):=by
 intro pins s σ H x xs v us Q I rx rxs h;obtain ⟨a,ts,tt,b,t,j,rfl,rfl,hs,hlen,hts,hb,hj,hno,q⟩:=h;cases rx
 cases rxs with
 | cons ry rt =>
   rename_i uy ut
   cases rt;obtain ⟨its,rv,⟨⟨cls,dd,data,sl⟩,ho,hc,n,hd⟩,hz⟩:=I.tuple hs;simp only at hc hd;subst hc hd;have hvl:=rv.length;rw [List.length_map] at hvl;have hjl:j < tt.length:=(List.getElem?_eq_some_iff.mp hj).1;obtain ⟨bs,rb⟩:=Dp.reads I (d3 t) (.ref b) uy (dp3 hb) ry
   refine call_meets PySem.F.slot_tuple_index ⟨_,ho,rfl⟩ PySem.F.entry_tuple_index (PySem.F.args_tuple_index_2 _ _)
     (tuple_indexAt a its.toArray n dd sl uy (fun i=>decide (tt.getD i (2,0,0)=t)) j (by rw [List.size_toArray]; omega) ?_ ?_) ⟨ho,fun i hi=>?_,?_⟩
   · show decide (tt.getD j (2,0,0)=t)=true;rw [List.getD_eq_getElem?_getD,hj];simp
   · intro m hm;show decide (tt.getD m (2,0,0)=t)=false;have hml:m < tt.length:=by omega
     rw [List.getD_eq_getElem?_getD,List.getElem?_eq_getElem hml];exact decide_eq_false (hno m hm _ (List.getElem?_eq_getElem hml))
   · rw [List.size_toArray] at hi;have hil:i < tt.length:=by omega
     have hit:i < ts.length:=by omega
     have hp:=hts i ts[i] tt[i] (List.getElem?_eq_getElem hit) (List.getElem?_eq_getElem hil);obtain ⟨u,hu2,ru⟩:=rv.get (i:=i) (x:=V.ref ts[i]) (by rw [List.getElem?_map,List.getElem?_eq_getElem hit]; rfl);obtain ⟨as,ra⟩:=Dp.reads I (d3 tt[i]) (.ref ts[i]) u (dp3 hp) ru;obtain ⟨_,hue⟩:=List.getElem?_eq_some_iff.mp hu2;have e1:its.toArray[i]=u:=by simpa using hue
     rw [e1];show EqAt X.A.in1 s u uy (decide (tt.getD i (2,0,0)=t));rw [List.getD_eq_getElem?_getD,List.getElem?_eq_getElem hil,Option.getD_some,← eqv3];refine eqAt_reads _ _ _ _ _ _ _ _ ra rb (can3 _) (can3 _) ?_;have h1:=dep3 tt[i];have h2:min (d3 tt[i]).depth (d3 t).depth≤(d3 tt[i]).depth:=Nat.min_le_left _ _;show X.A.units+1+_ < _;omega
   · exact ⟨.int (j:Nat),H,I.tok _,⟨_,rfl⟩,q⟩
end Ho
end
section
set_option Elab.async false
set_option linter.all false
set_option maxRecDepth 100000
namespace Ho
open PySem hiding start
open PySem.Spec
open PyProof.Rows hiding St
open L2
noncomputable def tDSet (td ty tx:TE):TE:=fun σ H Q=>td σ H fun x H1=>∃ a,x = .ref a∧IsD H1 a∧ty σ H1 fun y H2=>tx σ H2 fun z H3=>∃ kvs k,H3 a=some (.dK kvs)∧y=kV k∧kvs.length < sizeLine ∧
 (∀ v,valV kvs k=some v→Q v H3)∧(valV kvs k=none→Q z (upd H3 a (.dK (kvs++[(k,z)]))))
section
variable {X:Cx} {o e f:Expr} {apos cpos:Pos} {td ty tx:TE}
theorem pe_dset (ho:PE X o td) (he:PE X e ty) (hf:PE X f tx) (m:M2 X o "setdefault" apos e f cpos):PE X (.Call (.Attribute o "setdefault" apos) [e,f] [] cpos) (tDSet td ty tx):=by
 intro pins s σ H Q I h;refine wpAny_Call_method m.base m.few m.line PySem.F.plainAttrs_dict PySem.F.slot_dict_setdefault PySem.F.type_dict_setdefault (thn (ho pins s σ H _ I h) fun u s1 ⟨x,H1,I1,rx,a,ex,d,q1⟩=>?_);subst ex;obtain rfl:u=Value.ref a:=rx;obtain ⟨t1,t2,_⟩:=isD_at I1 d;refine ⟨t1,t2,?_⟩;rw [m.trees]
 refine Calls.callWith_builtin rfl (Calls.evalArgs_plain (Calls.spliced_cons (thn (he pins s1 σ H1 _ I1 q1) fun iv s2 ⟨y,H2,I2,ry,q2⟩ =>
   Calls.spliced_cons (thn (hf pins s2 σ H2 _ I2 q2) fun fv s3 ⟨z,H3,I3,rz,kvs,k,ea,ey,hz,q3,q4⟩=>Calls.spliced_nil ?_))))
 subst ey;obtain ⟨z',hd,vs,rel,dd⟩:=dk_of I3.hok ea;refine call_meetsIn PySem.F.slot_dict_setdefault dd.typeIs PySem.F.entry_dict_setdefault (PySem.F.args_dict_setdefault_3 _ _ _) (PySem.kt_meets_setdefault (mixKind X.prog X.w) a (kV_is ry) hd fv) ⟨vs,dd,by rw [← rel.length]; exact z',fun v hv=>?_,fun hn h' dd' hs=>?_⟩
 · have r:=rel.val k;rw [hv] at r
   cases l:valV kvs k with
   | none=>rw [l] at r; exact r.elim
   | some y =>
     rw [l] at r;exact ⟨y,H3,I3.tok _,r,q3 y l⟩
 · have r:=rel.val k;rw [hn] at r
   cases l:valV kvs k with
   | some y=>rw [l] at r; exact r.elim
   | none =>
     have he:∃ q,h'.get? a=some q:=let ⟨q,_,_,hq,_⟩:=dd'; ⟨q,hq⟩
     have hl:(putK kvs k z).length≤sizeLine:=by have:=length_putK kvs k z; omega
     refine ⟨z,_,d_write I3 (by rw [ea]; exact True.intro) hs he (dk_new hl hd (rel.put k rz) dd'),rz,?_⟩;rw [putK_new z l];exact q4 l
end
end Ho
end
section
set_option Elab.async false
set_option linter.all false
set_option maxRecDepth 100000
namespace Ho
open PySem hiding start
open PySem.Spec
open PyProof.Rows hiding St
open L2
section
variable {X:Cx} {x:Str} {pos:Pos}
theorem pe_gi {i:Int} (hm:∃ t,X.mg x=some (.int i t)) (hg:Gl X x:=by rfl) (hd:(x == ("__debug__" : Str))=false:=by decide):PE X (.Name x pos) (tC (.int i)):=by
 obtain ⟨t,hm⟩:=hm;exact pe_glob hg hm ⟨t,rfl⟩ hd
theorem pe_gs {i:Str} (hm:∃ t,X.mg x=some (.str i t)) (hg:Gl X x:=by rfl) (hd:(x == ("__debug__" : Str))=false:=by decide):PE X (.Name x pos) (tC (.str i)):=by
 obtain ⟨t,hm⟩:=hm;exact pe_glob hg hm ⟨t,rfl⟩ hd
theorem pe_gr {a:Addr} (hm:X.mg x=some (.ref a)) (hg:Gl X x:=by rfl) (hd:(x == ("__debug__" : Str))=false:=by decide):PE X (.Name x pos) (tC (.ref a)):=pe_glob hg hm rfl hd
end
noncomputable def tFold (t:TS):TS:=t
theorem unf {t:TS} {D:Ends} {σ:St} {H:Hp} (h:t D σ H):tFold t D σ H:=h
theorem pss_k {X:Cx} {st:Stmt} {rest:List Stmt} {t u:TS} (h1:PS X st t) (h2:PSs X rest u):PSs X (st :: rest) (tSeq t (tFold u)):=pss_cons h1 h2
theorem for_str {x:Str} {g:TG} {tb:TS} {D:Ends} {σ:St} {H:Hp} (Pv:Nat→St→Hp→Prop) (h0:Pv 0 σ H)
   (hs:∀ i c σ H,x.cps[i]? = some c→Pv i σ H→g (.str ⟨#[c]⟩) σ H fun σ2 H2=>tb { D with nx:=Pv (i+1),ct:=Pv (i+1),bk:=D.nx } σ2 H2) (hd:∀ σ H,Pv x.cps.size σ H→D.nx σ H) :
   ∃ W:Nat→Nat→St→Hp→Prop,(∃ m,W 0 m σ H)∧∀ i m σ H,W i m σ H →
     ((Its x).stop i H∧D.nx σ H)∨((Its x).go i H∧∃ N:St→Hp→Prop,(∀ σ' H',N σ' H'→∃ m',m' < m∧W (i+1) m' σ' H')∧∀ v H',(Its x).yld i H v H'→g v σ H' fun σ2 H2=>tb { D with nx:=N,ct:=N,bk:=D.nx } σ2 H2):=by
 refine ⟨fun i m σ H=>m=x.cps.size - i∧i≤x.cps.size∧Pv i σ H,⟨x.cps.size,by simp,Nat.zero_le _,h0⟩,?_⟩;rintro i m σ H ⟨rfl,hi,p⟩;by_cases hlt:i < x.cps.size
 · refine .inr ⟨hlt,Pv (i+1),fun σ' H' p'=>⟨x.cps.size - (i+1),by omega,rfl,hlt,p'⟩,fun v H' y=>?_⟩;obtain ⟨e,c,hc,e2⟩:=y;subst e e2;exact hs i c σ _ hc p
 · have e:i=x.cps.size:=by omega
   subst e;exact .inl ⟨Nat.le_refl _,hd σ H p⟩
theorem lc_str {x:Str} {g:TG} {tt:TT} {te:TE} {vs:List Nat} {σ:St} {H1:Hp} {D:Addr} {Qd:Hp→Prop} (Pv:Nat→Hp→Prop) (h0:Pv 0 (upd H1 D (.lst [])))
   (hs:∀ i c H,x.cps[i]? = some c→Pv i H→g (.str ⟨#[c]⟩) (wipe σ vs) H fun σ2 H2=>wipe σ2 vs=wipe σ vs∧tt σ2 H2 fun b H3 =>
     if b=true then te σ2 H3 fun y H4=>∃ acc,H4 D=some (.lst acc)∧acc.length < sizeLine∧Pv (i+1) (upd H4 D (.lst (acc++[y]))) else Pv (i+1) H3) (hd:∀ H,Pv x.cps.size H→Qd H) :
   ∃ W:Nat→Nat→Hp→Prop,(∃ m,W 0 m (upd H1 D (.lst [])))∧∀ i m H,W i m H →
     ((Its x).stop i H∧Qd H)∨((Its x).go i H∧∃ Nx:Hp→Prop,(∀ H',Nx H'→∃ m',m' < m∧W (i+1) m' H')∧∀ v H',(Its x).yld i H v H'→g v (wipe σ vs) H' fun σ2 H2=>wipe σ2 vs=wipe σ vs∧tt σ2 H2 fun b H3 =>
       if b=true then te σ2 H3 fun y H4=>∃ acc,H4 D=some (.lst acc)∧acc.length < sizeLine∧Nx (upd H4 D (.lst (acc++[y]))) else Nx H3):=by
 refine ⟨fun i m H=>m=x.cps.size - i∧i≤x.cps.size∧Pv i H,⟨x.cps.size,by simp,Nat.zero_le _,h0⟩,?_⟩;rintro i m H ⟨rfl,hi,p⟩;by_cases hlt:i < x.cps.size
 · refine .inr ⟨hlt,Pv (i+1),fun H' p'=>⟨x.cps.size - (i+1),by omega,rfl,hlt,p'⟩,fun v H' y=>?_⟩;obtain ⟨e,c,hc,e2⟩:=y;subst e e2;exact hs i c _ hc p
 · have e:i=x.cps.size:=by omega
   subst e;exact .inl ⟨Nat.le_refl _,hd H p⟩
theorem for_enum {K:PySem.W.Frag} {a:Addr} {xs:List V} {g:TG} {tb:TS} {D:Ends} {σ:St} {H:Hp} (Pv:Nat→St→Hp→Prop) (h0:Pv 0 σ H) (hl:∀ i σ H,i≤xs.length→Pv i σ H→SqL K H a xs)
   (hs:∀ i x σ H T,xs[i]? = some x→Pv i σ H→H T=none→g (.ref T) σ (upd H T (.tup [.int (i:Nat),x])) fun σ2 H2=>tb { D with nx:=Pv (i+1),ct:=Pv (i+1),bk:=D.nx } σ2 H2) (hd:∀ σ H,Pv xs.length σ H→D.nx σ H) :
   ∃ W:Nat→Nat→St→Hp→Prop,(∃ m,W 0 m σ H)∧∀ i m σ H,W i m σ H →
     ((Ite K a).stop i H∧D.nx σ H)∨((Ite K a).go i H∧∃ N:St→Hp→Prop,(∀ σ' H',N σ' H'→∃ m',m' < m∧W (i+1) m' σ' H')∧∀ x H',(Ite K a).yld i H x H'→g x σ H' fun σ2 H2=>tb { D with nx:=N,ct:=N,bk:=D.nx } σ2 H2):=by
 refine ⟨fun i m σ H=>m=xs.length - i∧i≤xs.length∧Pv i σ H,⟨xs.length,by simp,Nat.zero_le _,h0⟩,?_⟩;rintro i m σ H ⟨rfl,hi,p⟩;have q:=hl i σ H hi p;by_cases hlt:i < xs.length
 · refine .inr ⟨⟨xs,xs[i],q,by simp [hlt]⟩,Pv (i+1),fun σ' H' p'=>⟨xs.length - (i+1),by omega,rfl,hlt,p'⟩,fun v H' y=>?_⟩;obtain ⟨T,x,e1,e2,e3,y⟩:=y;subst e1 e3;exact hs i x σ _ T (y xs q) p e2
 · have e:i=xs.length:=by omega
   subst e;exact .inl ⟨⟨xs,q,Nat.le_refl _⟩,hd σ H p⟩
theorem sqL_new {K:PySem.W.Frag} {H:Hp} {a D:Addr} {xs:List V} {o:HO} (hD:H D=Option.none) (h:SqL K H a xs):SqL K (upd H D o) a xs:=by
 rcases h with (h | ⟨q,h⟩) | h
 · exact .inl (.inl (by rw [upd_ne (ne_of_none h hD)]; exact h))
 · exact .inl (.inr ⟨q,by rw [upd_ne (ne_of_none h hD)]; exact h⟩)
 · exact .inr h
theorem same_new {H:Hp} {D:Addr} {o:HO} (hD:H D=Option.none):Same H (upd H D o):=fun b u e=>by
 rw [upd_ne (ne_of_none e hD)];exact e
theorem lc_map {K:PySem.W.Frag} {a:Addr} {xs:List V} {g:TG} {tt:TT} {te:TE} {vs:List Nat} {σ:St} {H1:Hp} {D:Addr} {Qd:Hp→Prop} (f:V→V) (hD:H1 D=Option.none) (hl:SqL K H1 a xs) (hz:xs.length≤sizeLine)
   (hs:∀ (i:Nat) (x:V) (acc:List V) (Nx:Hp→Prop),xs[i]? = some x→acc.length < sizeLine→Nx (upd H1 D (.lst (acc++[f x])))→g x (wipe σ vs) (upd H1 D (.lst acc)) fun σ2 H2=>wipe σ2 vs=wipe σ vs∧tt σ2 H2 fun b H3 =>
     if b=true then te σ2 H3 fun y H4=>∃ acc,H4 D=some (.lst acc)∧acc.length < sizeLine∧Nx (upd H4 D (.lst (acc++[y]))) else Nx H3) (hd:Qd (upd H1 D (.lst (xs.map f)))) :
   ∃ W:Nat→Nat→Hp→Prop,(∃ m,W 0 m (upd H1 D (.lst [])))∧∀ i m H,W i m H →
     ((Itl K a).stop i H∧Qd H)∨((Itl K a).go i H∧∃ Nx:Hp→Prop,(∀ H',Nx H'→∃ m',m' < m∧W (i+1) m' H')∧∀ x H',(Itl K a).yld i H x H'→g x (wipe σ vs) H' fun σ2 H2=>wipe σ2 vs=wipe σ vs∧tt σ2 H2 fun b H3 =>
       if b=true then te σ2 H3 fun y H4=>∃ acc,H4 D=some (.lst acc)∧acc.length < sizeLine∧Nx (upd H4 D (.lst (acc++[y]))) else Nx H3):=by
 refine lc_list (xs:=xs) (fun i H=>H=upd H1 D (.lst ((xs.take i).map f))) (by simp) (fun i H hi e=>by rw [e]; exact sqL_new hD hl) (fun i x H hx e=>?_) (fun H e=>by rw [e,List.take_length]; exact hd);subst e;have hi:i < xs.length:=(List.getElem?_eq_some_iff.mp hx).1;refine hs i x _ _ hx (by rw [List.length_map,List.length_take]; omega) ?_;rw [List.take_succ,hx,List.map_append];rfl
theorem tLc_map {wi:TI} {K:PySem.W.Frag} {a:Addr} {xs:List V} {g:TG} {tt:TT} {te:TE} {vs:List Nat} {σ:St} {H H1:Hp} {Q:VK} (f:V→V) (hw:∀ R:It→Hp→Prop,R (Itl K a) H1→wi σ H R) (hl:SqL K H1 a xs) (hz:xs.length≤sizeLine)
   (hs:∀ (D:Addr) (i:Nat) (x:V) (acc:List V) (Nx:Hp→Prop),H1 D=Option.none→xs[i]? = some x→acc.length < sizeLine→Nx (upd H1 D (.lst (acc++[f x])))→g x (wipe σ vs) (upd H1 D (.lst acc)) fun σ2 H2=>wipe σ2 vs=wipe σ vs∧tt σ2 H2 fun b H3 =>
     if b=true then te σ2 H3 fun y H4=>∃ acc,H4 D=some (.lst acc)∧acc.length < sizeLine∧Nx (upd H4 D (.lst (acc++[y]))) else Nx H3) (hd:∀ D,H1 D=Option.none→Q (.ref D) (upd H1 D (.lst (xs.map f)))):tLc wi g tt te vs σ H Q :=
 hw _ fun D hD=>lc_map (Qd:=fun H=>Q (.ref D) H) f hD hl hz (fun i x acc Nx=>hs D i x acc Nx hD) (hd D hD)
theorem tLc_list {wi:TI} {K:PySem.W.Frag} {a:Addr} {xs:List V} {g:TG} {tt:TT} {te:TE} {vs:List Nat} {σ:St} {H H1:Hp} {Q:VK} (Pv:Addr→Nat→Hp→Prop) (hw:∀ R:It→Hp→Prop,R (Itl K a) H1→wi σ H R) (h0:∀ D,H1 D=Option.none→Pv D 0 (upd H1 D (.lst []))) (hl:∀ D i H,i≤xs.length→Pv D i H→SqL K H a xs)
   (hs:∀ (D:Addr) (i:Nat) (x:V) (H:Hp),xs[i]? = some x→Pv D i H→g x (wipe σ vs) H fun σ2 H2=>wipe σ2 vs=wipe σ vs∧tt σ2 H2 fun b H3 =>
     if b=true then te σ2 H3 fun y H4=>∃ acc,H4 D=some (.lst acc)∧acc.length < sizeLine∧Pv D (i+1) (upd H4 D (.lst (acc++[y]))) else Pv D (i+1) H3) (hd:∀ D H,Pv D xs.length H→Q (.ref D) H):tLc wi g tt te vs σ H Q :=
 hw _ fun D hD=>lc_list (Qd:=fun H=>Q (.ref D) H) (Pv D) (h0 D hD) (hl D) (hs D) (hd D)
theorem tLc_range {wi:TI} {lo:Int} {n:Nat} {g:TG} {tt:TT} {te:TE} {vs:List Nat} {σ:St} {H H1:Hp} {Q:VK} (Pv:Addr→Nat→Hp→Prop) (hw:∀ R:It→Hp→Prop,R (Itr lo n) H1→wi σ H R) (h0:∀ D,H1 D=Option.none→Pv D 0 (upd H1 D (.lst [])))
   (hs:∀ (D:Addr) (i:Nat) (H:Hp),i < n→Pv D i H→g (.int (lo+i)) (wipe σ vs) H fun σ2 H2=>wipe σ2 vs=wipe σ vs∧tt σ2 H2 fun b H3 =>
     if b=true then te σ2 H3 fun y H4=>∃ acc,H4 D=some (.lst acc)∧acc.length < sizeLine∧Pv D (i+1) (upd H4 D (.lst (acc++[y]))) else Pv D (i+1) H3) (hd:∀ D H,Pv D n H→Q (.ref D) H):tLc wi g tt te vs σ H Q :=
 hw _ fun D hD=>lc_range (Qd:=fun H=>Q (.ref D) H) (Pv D) (h0 D hD) (hs D) (hd D)
theorem tLc_str {wi:TI} {x:Str} {g:TG} {tt:TT} {te:TE} {vs:List Nat} {σ:St} {H H1:Hp} {Q:VK} (Pv:Addr→Nat→Hp→Prop) (hw:∀ R:It→Hp→Prop,R (Its x) H1→wi σ H R) (h0:∀ D,H1 D=Option.none→Pv D 0 (upd H1 D (.lst [])))
   (hs:∀ (D:Addr) (i c:Nat) (H:Hp),x.cps[i]? = some c→Pv D i H→g (.str ⟨#[c]⟩) (wipe σ vs) H fun σ2 H2=>wipe σ2 vs=wipe σ vs∧tt σ2 H2 fun b H3 =>
     if b=true then te σ2 H3 fun y H4=>∃ acc,H4 D=some (.lst acc)∧acc.length < sizeLine∧Pv D (i+1) (upd H4 D (.lst (acc++[y]))) else Pv D (i+1) H3) (hd:∀ D H,Pv D x.cps.size H→Q (.ref D) H):tLc wi g tt te vs σ H Q :=
 hw _ fun D hD=>lc_str (Qd:=fun H=>Q (.ref D) H) (Pv D) (h0 D hD) (hs D) (hd D)
theorem tFor_list {wi:TI} {K:PySem.W.Frag} {a:Addr} {xs:List V} {g:TG} {tb:TS} {D:Ends} {σ:St} {H H1:Hp} (Pv:Nat→St→Hp→Prop) (hw:∀ R:It→Hp→Prop,R (Itl K a) H1→wi σ H R) (h0:Pv 0 σ H1) (hl:∀ i σ H,i≤xs.length→Pv i σ H→SqL K H a xs)
   (hs:∀ i x σ H,xs[i]? = some x→Pv i σ H→g x σ H fun σ2 H2=>tb { D with nx:=Pv (i+1),ct:=Pv (i+1),bk:=D.nx } σ2 H2) (hd:∀ σ H,Pv xs.length σ H→D.nx σ H):tFor wi g tb D σ H:=hw _ (for_list Pv h0 hl hs hd)
theorem tFor_range {wi:TI} {lo:Int} {n:Nat} {g:TG} {tb:TS} {D:Ends} {σ:St} {H H1:Hp} (Pv:Nat→St→Hp→Prop) (hw:∀ R:It→Hp→Prop,R (Itr lo n) H1→wi σ H R) (h0:Pv 0 σ H1)
   (hs:∀ i σ H,i < n→Pv i σ H→g (.int (lo+i)) σ H fun σ2 H2=>tb { D with nx:=Pv (i+1),ct:=Pv (i+1),bk:=D.nx } σ2 H2) (hd:∀ σ H,Pv n σ H→D.nx σ H):tFor wi g tb D σ H:=hw _ (for_range Pv h0 hs hd)
theorem tFor_str {wi:TI} {x:Str} {g:TG} {tb:TS} {D:Ends} {σ:St} {H H1:Hp} (Pv:Nat→St→Hp→Prop) (hw:∀ R:It→Hp→Prop,R (Its x) H1→wi σ H R) (h0:Pv 0 σ H1)
   (hs:∀ i c σ H,x.cps[i]? = some c→Pv i σ H→g (.str ⟨#[c]⟩) σ H fun σ2 H2=>tb { D with nx:=Pv (i+1),ct:=Pv (i+1),bk:=D.nx } σ2 H2) (hd:∀ σ H,Pv x.cps.size σ H→D.nx σ H):tFor wi g tb D σ H:=hw _ (for_str Pv h0 hs hd)
theorem tFor_enum {wi:TI} {K:PySem.W.Frag} {a:Addr} {xs:List V} {g:TG} {tb:TS} {D:Ends} {σ:St} {H H1:Hp} (Pv:Nat→St→Hp→Prop) (hw:∀ R:It→Hp→Prop,R (Ite K a) H1→wi σ H R) (h0:Pv 0 σ H1) (hl:∀ i σ H,i≤xs.length→Pv i σ H→SqL K H a xs)
   (hs:∀ i x σ H T,xs[i]? = some x→Pv i σ H→H T=none→g (.ref T) σ (upd H T (.tup [.int (i:Nat),x])) fun σ2 H2=>tb { D with nx:=Pv (i+1),ct:=Pv (i+1),bk:=D.nx } σ2 H2) (hd:∀ σ H,Pv xs.length σ H→D.nx σ H):tFor wi g tb D σ H:=hw _ (for_enum Pv h0 hl hs hd)
theorem tFor_listE {wi:TI} {K:PySem.W.Frag} {a:Addr} {xs:List V} {g:TG} {tb:TS} {D:Ends} {σ:St} {H H1:Hp} (Pv:Nat→St→Hp→Prop) (hw:∀ R:It→Hp→Prop,R (Itl K a) H1→wi σ H R) (hl:SqL K H1 a xs) (h0:Pv 0 σ H1)
   (hs:∀ i x σ H (E:Ends),xs[i]? = some x→Pv i σ H→(∀ σ' H',SqL K H' a xs→Pv (i+1) σ' H'→E.nx σ' H')→E.ct=E.nx→E.rt=D.rt→g x σ H fun σ2 H2=>tb E σ2 H2) (hd:∀ σ H,Pv xs.length σ H→D.nx σ H):tFor wi g tb D σ H :=
 tFor_list (fun i σ H=>SqL K H a xs∧Pv i σ H) hw ⟨hl,h0⟩ (fun _ _ _ _ p=>p.1) (fun i x σ H hx p=>hs i x σ H { D with nx:=_,ct:=_,bk:=D.nx } hx p.2 (fun _ _ q r=>⟨q,r⟩) rfl rfl) fun _ _ p=>hd _ _ p.2
theorem tFor_rangeE {wi:TI} {lo:Int} {n:Nat} {g:TG} {tb:TS} {D:Ends} {σ:St} {H H1:Hp} (Pv:Nat→St→Hp→Prop) (hw:∀ R:It→Hp→Prop,R (Itr lo n) H1→wi σ H R) (h0:Pv 0 σ H1)
   (hs:∀ i σ H (E:Ends),i < n→Pv i σ H→(∀ σ' H',Pv (i+1) σ' H'→E.nx σ' H')→E.ct=E.nx→E.rt=D.rt→g (.int (lo+i)) σ H fun σ2 H2=>tb E σ2 H2) (hd:∀ σ H,Pv n σ H→D.nx σ H):tFor wi g tb D σ H :=
 tFor_range Pv hw h0 (fun i σ H hx p=>hs i σ H { D with nx:=Pv (i+1),ct:=Pv (i+1),bk:=D.nx } hx p (fun _ _ q=>q) rfl rfl) hd
theorem tFor_enumE {wi:TI} {K:PySem.W.Frag} {a:Addr} {xs:List V} {g:TG} {tb:TS} {D:Ends} {σ:St} {H H1:Hp} (Pv:Nat→St→Hp→Prop) (hw:∀ R:It→Hp→Prop,R (Ite K a) H1→wi σ H R) (hl:SqL K H1 a xs) (h0:Pv 0 σ H1)
   (hs:∀ i x σ H T (E:Ends),xs[i]? = some x→Pv i σ H→H T=none→(∀ σ' H',SqL K H' a xs→Pv (i+1) σ' H'→E.nx σ' H')→E.ct=E.nx→E.rt=D.rt→g (.ref T) σ (upd H T (.tup [.int (i:Nat),x])) fun σ2 H2=>tb E σ2 H2) (hd:∀ σ H,Pv xs.length σ H→D.nx σ H):tFor wi g tb D σ H :=
 tFor_enum (fun i σ H=>SqL K H a xs∧Pv i σ H) hw ⟨hl,h0⟩ (fun _ _ _ _ p=>p.1) (fun i x σ H T hx p hT=>hs i x σ H T { D with nx:=_,ct:=_,bk:=D.nx } hx p.2 hT (fun _ _ q r=>⟨q,r⟩) rfl rfl) fun _ _ p=>hd _ _ p.2
theorem snocI {l:List Int} {z:Int}:l.map V.int++[V.int z]=(l++[z]).map V.int:=by
 rw [List.map_append];rfl
theorem scal_ii {a b:Int}:scal (.int a) (.int b)=true:=rfl
theorem scal_ss {a b:Str}:scal (.str a) (.str b)=true:=rfl
theorem scal_bb {a b:Bool}:scal (.bl a) (.bl b)=true:=rfl
theorem ixV {K:PySem.W.Frag} {H:Hp} {a:Addr} {L:List V} {n:Int} {v:V} {R:V→Prop} (h1:SqL K H a L) (h2:atI L n=some v) (h:R v):∃ x,SqL K H a x∧∃ y,atI x n=some y∧R y:=⟨L,h1,v,h2,h⟩
theorem ixI {K:PySem.W.Frag} {H:Hp} {a:Addr} {L:List V} {n z:Int} {R:Int→Prop} (h1:SqL K H a L) (h2:atI L n=some (V.int z)) (h:R z):∃ x,SqL K H a x∧∃ y,atI x n=some y∧∃ i,y=V.int i∧R i:=⟨L,h1,_,h2,z,rfl,h⟩
theorem exI {z:Int} {R:Int→Prop} (h:R z):∃ i,V.int z=V.int i∧R i:=⟨z,rfl,h⟩
section
variable {K:PySem.W.Frag} {σ:St} {H:Hp} {Q:VK}
theorem rv {i:Nat} {v:V} (e:σ[i]? = some (some v)) (k:Q v H):tVar i σ H Q:=⟨v,e,k⟩
theorem rSet {i:Nat} {a C dx:Addr} {fs:List (Str × V)} {y:V} {f:Str} {N:Hp→Prop} (e:σ[i]? = some (some (.ref a))) (h:H a=some (.ins C dx fs)) (c:Cls K C) (n:NoAttr K C f) (z:fs.length < 1000) (k:N (upd H a (.ins C dx (putF f y fs)))) :
   tVar i σ H fun x H2=>∃ a C dx fs,x = .ref a∧H2 a=some (.ins C dx fs)∧Cls K C∧NoAttr K C f∧fs.length < 1000∧N (upd H2 a (.ins C dx (putF f y fs))):=⟨_,e,a,C,dx,fs,rfl,h,c,n,z,k⟩
theorem rSetV {i j:Nat} {D:Ends} {a C dx:Addr} {fs:List (Str × V)} {y:V} {f:Str} (e2:σ[j]? = some (some y)) (e:σ[i]? = some (some (.ref a))) (h:H a=some (.ins C dx fs)) (c:Cls K C) (n:NoAttr K C f) (z:fs.length < 1000) (k:D.nx σ (upd H a (.ins C dx (putF f y fs)))):sFld K (tVar i) (tVar j) f D σ H:=rv e2 (rSet (N:=fun H=>D.nx σ H) e h c n z k)
theorem rSetC {i:Nat} {D:Ends} {a C dx:Addr} {fs:List (Str × V)} {y:V} {f:Str} (e:σ[i]? = some (some (.ref a))) (h:H a=some (.ins C dx fs)) (c:Cls K C) (n:NoAttr K C f) (z:fs.length < 1000) (k:D.nx σ (upd H a (.ins C dx (putF f y fs)))):sFld K (tVar i) (tC y) f D σ H:=rSet (N:=fun H=>D.nx σ H) e h c n z k
theorem rSetN {i:Nat} {D:Ends} {a C dx:Addr} {fs:List (Str × V)} {f:Str} (e:σ[i]? = some (some (.ref a))) (h:H a=some (.ins C dx fs)) (c:Cls K C) (n:NoAttr K C f) (z:fs.length < 1000) (k:∀ p,H p=none→D.nx σ (upd (upd H p (.lst [])) a (.ins C dx (putF f (.ref p) fs)))):sFld K (tVar i) (tLst tNil) f D σ H :=
 ⟨Nat.zero_le _,fun p hp=>rSet (N:=fun H=>D.nx σ H) e (by rw [upd_ne (ne_of_none h hp)]; exact h) c n z (k p hp)⟩
end
theorem gd_lt {c:Nat} (h:Gd c):c < 128:=by
 unfold Gd okc dig low at h;simp only [Bool.or_eq_true,Bool.and_eq_true,decide_eq_true_eq,beq_iff_eq] at h;omega
theorem alnum_all:∀ c:Fin 128,(okc c.val=true∨c.val=63)→Unicode.isAlnum c.val=(low c.val || dig c.val):=by decide +kernel
theorem digit_all:∀ c:Fin 128,(okc c.val=true∨c.val=63)→Unicode.isDigit c.val=dig c.val:=by decide +kernel
theorem alnum_gd {c:Nat} (h:Gd c):Unicode.isAlnum c=(low c || dig c):=alnum_all ⟨c,gd_lt h⟩ h
theorem digit_gd {c:Nat} (h:Gd c):Unicode.isDigit c=dig c:=digit_all ⟨c,gd_lt h⟩ h
theorem all_congr {p q:Nat→Bool}:∀ {l:List Nat},(∀ c∈l,p c=q c)→l.all p=l.all q
 | [],_=>rfl
 | a :: r,h=>by rw [List.all_cons,List.all_cons,h a (by simp),all_congr fun c hc=>h c (by simp [hc])]
noncomputable def GS (x:Str):Prop:=∀ c∈TL.tl x,Gd c
theorem isEmpty_len (l:List Nat):decide (l.length > 0) = !l.isEmpty:=by cases l <;> simp
theorem name_ok {x:Str} (h:GS x):(PySem.Txt.isalnum x && decide (x.length≤12))=isName (TL.tl x):=by
 unfold PySem.Txt.isalnum isName;rw [← Array.all_toList,all_congr (fun c hc=>alnum_gd (h c hc)),TL.len_tl,isEmpty_len]
end Ho
end
local macro_rules | `(tactic| push_cast [$xs,*])=>`(tactic| ((try dsimp only [L2.cxOf,L2.sFld,L2.tFld,L2.tLst,L2.tTup,L2.rRep,L2.iEnum,L2.gTup,L2.gSub,L2.rSetL,L2.rAppend,L2.rExtend,L2.rPop,L2.rCat,L2.rIn,L2.tBM,L2.tBM0,L2.tDIn,L2.tDNotIn,L2.tDGet,L2.sDPut,L2.tMake,L2.tSl,L2.tPart,L2.tNoPart,L2.rSlL,L2.rIxS,L2.rIxL,L2.rIxT,L2.rEq,L2.rNe,Ho.scal_ii,Ho.scal_ss,Ho.scal_bb,L2.iList,L2.iTup,L2.iRng1,L2.iRng2,L2.iStr,L2.start,L2.tRet,L2.tRetN,L2.tSeq,L2.tNext,L2.tIfS,L2.tDrop,L2.tAsg,L2.gName,L2.tAug,L2.ipI,L2.tVar,L2.tC,L2.tOp,L2.tUn,L2.rI0,L2.rI,L2.rU,L2.tTest,L2.tChain,L2.tAnd,L2.tOr,L2.tNot,L2.tAndV,L2.tOrV,L2.tNotV,L2.tCB,L2.tCons,L2.tNil,L2.tM0,L2.tM1,L2.tCall,L2.tB,L2.tIf,L2.tYes,L2.wipe,L2.gCons,L2.gNil,List.map_cons,List.map_nil,List.length_cons,List.length_nil,List.cons_append,List.nil_append,List.replicate,List.set_cons_zero,List.set_cons_succ,List.getElem?_cons_zero,List.getElem?_cons_succ,Nat.reduceSub,Nat.reduceAdd,Nat.zero_add]); (try simp only [and_assoc,L2.cxOf,L2.upd_same,L2.upd_upd,L2.HO.lst.injEq,L2.HO.ins.injEq,L2.HO.dK.injEq,L2.HO.tup.injEq,L2.sFld,L2.tFld,L2.tLst,L2.tTup,L2.rRep,L2.iEnum,L2.gTup,L2.gSub,L2.rSetL,L2.rAppend,L2.rExtend,L2.rPop,L2.rCat,L2.rIn,L2.tBM,L2.tBM0,L2.tDIn,L2.tDNotIn,L2.tDGet,L2.sDPut,L2.tMake,L2.tSl,L2.tPart,L2.tNoPart,L2.rSlL,L2.rIxS,L2.rIxL,L2.rIxT,L2.rEq,L2.rNe,Ho.scal_ii,Ho.scal_ss,Ho.scal_bb,L2.iList,L2.iTup,L2.iRng1,L2.iRng2,L2.iStr,L2.start,L2.tRet,L2.tRetN,L2.tSeq,L2.tNext,L2.tIfS,L2.tDrop,L2.tAsg,L2.gName,L2.tAug,L2.ipI,L2.tVar,L2.tC,L2.tOp,L2.tUn,L2.rI0,L2.rI,L2.rU,L2.tTest,L2.tChain,L2.tAnd,L2.tOr,L2.tNot,L2.tAndV,L2.tOrV,L2.tNotV,L2.tCB,L2.tCons,L2.tNil,L2.tM0,L2.tM1,L2.tCall,L2.tB,L2.tIf,L2.tYes,L2.wipe,L2.gCons,L2.gNil,List.map_cons,List.map_nil,List.length_cons,List.length_nil,List.cons_append,List.nil_append,List.append_nil,List.replicate,List.set_cons_zero,List.set_cons_succ,List.getElem?_cons_zero,List.getElem?_cons_succ,Nat.reduceSub,Nat.reduceAdd,Nat.zero_add,Option.some.injEq,L2.V.int.injEq,L2.V.bl.injEq,L2.V.str.injEq,L2.V.ref.injEq,List.cons.injEq,and_true,true_and,exists_eq_left',exists_eq_left,exists_and_left,exists_eq,exists_eq',eq_self_iff_true,exists_const,if_true,Bool.false_eq_true,if_false,$xs,*])))
section
set_option Elab.async false
set_option linter.all false
set_option maxRecDepth 100000
namespace Ho
open PySem hiding start
open PySem.Spec
open PyProof.Rows hiding St
open L2
noncomputable def top (i:Nat):Stmt:=PySem.Challenge.pw_holding_s01_judge.main.body.getD i (.Pass ⟨0,0,0,0⟩)
noncomputable abbrev sIsName:Stmt:=top 28
noncomputable abbrev sNumber:Stmt:=top 29
noncomputable abbrev sNumbers:Stmt:=top 30
noncomputable abbrev sWithin:Stmt:=top 31
structure Txt (K:PySem.W.Frag) (mg:Str→Option Value):Prop where
 len:mg "len" = none
 int:mg "int" = none
 all:mg "all" = none
 LN:∃ t,mg "LONGEST_NAME" = some (.int 12 t)
 NN:∃ t,mg "NO_NUMBER" = some (.int (-1) t)
 HU:∃ t,mg "HUGE" = some (.int 10000 t)
section
variable {P:Program} {w:World} {K:PySem.W.Frag} {mg:Str→Option Value} {base:Heap}
theorem scIsName:FnScope ["word"] ["word"] (defScope sIsName):=⟨rfl,rfl,rfl,by decide +kernel,rfl,by decide +kernel,by decide +kernel⟩
inductive SpIsName (vs:List V) (H:Hp) (Q:VK):Prop
 | mk (x:Str) (h0:vs=[.str x]) (h1:x.length≤sizeLine) (h2:GS x) (h3:Q (.bl (isName (TL.tl x))) H):SpIsName vs H Q
noncomputable def spIsName:Sp:=fun vs H Q _=>SpIsName vs H Q
theorem ok_is_name {f:Addr} {fd:FuncData} (F:Fun K "is_name" "is_name" sIsName f fd) (T:Txt K mg):FnOk P w K mg base CX0 1 f fd ["word"] spIsName:=by
 refine F.ok scIsName (fun vs H Q E h=>?_) (fun cdv A outer s H vs Q E hr h=>?_)
 · obtain ⟨x,rfl,_⟩:=h;rfl
 · obtain ⟨x,rfl,hx,hg,k⟩:=h;rw [← name_ok hg] at k;refine ⟨_,pss_one (ps_ret (pe_and (pe_m0 PySem.F.slot_str_isalnum PySem.F.type_str_isalnum mt_isalnum (pv 0)) (pe_one (pe_cmpR op_le (pe_callB call_len_str (by rfl) T.len PySem.boot_len (pa_cons (pv 0) pa_nil)) (pe_gi T.LN) (nomark _))))),?_⟩;simp only [tRet,tAndV,tM0,tVar,L2.start,List.map_cons,List.map_nil,List.length_cons,List.length_nil,Nat.zero_add,Nat.reduceSub,List.replicate,List.append_nil,List.getElem?_cons_zero,Option.some.injEq,V.bl.injEq,tOp,tCB,tCons,tNil,List.cons.injEq,and_true,tC,rI0,V.int.injEq,exists_and_left,exists_eq_left',V.str.injEq,true_and,exists_eq'];cases hb:PySem.Txt.isalnum x
   · rw [hb] at k;exact iteF k
   · rw [hb] at k;refine iteT ⟨hx,?_⟩
     have e:decide ((x.length:Int)≤12)=decide (x.length≤12):=by
       rw [decide_eq_decide];omega
     rw [e];exact k
theorem scNumber:FnScope ["word"] ["word"] (defScope sNumber):=⟨rfl,rfl,rfl,by decide +kernel,rfl,by decide +kernel,by decide +kernel⟩
inductive SpNumber (vs:List V) (H:Hp) (Q:VK):Prop
 | mk (x:Str) (h0:vs=[.str x]) (h1:x.length≤sizeLine) (h2:GS x) (h3:Q (.int (num (TL.tl x))) H):SpNumber vs H Q
noncomputable def spNumber:Sp:=fun vs H Q _=>SpNumber vs H Q
theorem isdigit_ok {x:Str} (h:GS x):PySem.Txt.isdigit x=(!(TL.tl x).isEmpty && (TL.tl x).all dig):=by
 unfold PySem.Txt.isdigit;rw [← Array.all_toList,all_congr (fun c hc=>digit_gd (h c hc)),TL.len_tl,isEmpty_len]
theorem ok_number {f:Addr} {fd:FuncData} (F:Fun K "read_number" "read_number" sNumber f fd) (T:Txt K mg):FnOk P w K mg base CX0 1 f fd ["word"] spNumber:=by
 refine F.ok scNumber (fun vs H Q E h=>?_) (fun cdv A outer s H vs Q E hr h=>?_)
 · obtain ⟨x,rfl,_⟩:=h;rfl
 · obtain ⟨x,rfl,hx,hg,k⟩:=h
   refine ⟨_,pss_cons (ps_if (PW.pt (pw_or (pt_not (pt_val (pe_m0 PySem.F.slot_str_isdigit PySem.F.type_str_isdigit mt_isdigit (pv 0))))
       (pw_or1 (PW.pt (pw_and (pt_cmpR op_eq (pe_ix ix_str (pv 0) pe_int (fun _ _=>rfl)) pe_str (nomark _)) (pw_and1 (pt_cmpR op_gt (pe_callB call_len_str (by rfl) T.len PySem.boot_len (pa_cons (pv 0) pa_nil)) pe_int (nomark _))))))))
       (pss_one (ps_ret (pe_gi T.NN))) pss_nil)
     (pss_cons (ps_if (pt_cmpR op_gt (pe_callB call_len_str (by rfl) T.len PySem.boot_len (pa_cons (pv 0) pa_nil)) pe_int (nomark _)) (pss_one (ps_ret (pe_gi T.HU))) pss_nil)
     (pss_one (ps_ret (pe_callTy call_int_str (by rfl) T.int (by decide +kernel) (pa_cons (pv 0) pa_nil))))),?_⟩
   simp only [tSeq,tIfS,tOr,tNot,tB,tM0,tVar,L2.start,List.map_cons,List.map_nil,List.length_cons,List.length_nil,Nat.zero_add,Nat.reduceSub,List.replicate,List.append_nil,List.getElem?_cons_zero,Option.some.injEq,V.bl.injEq,tRet,tC,tNext,tTest,tOp,tCB,tCons,tNil,List.cons.injEq,and_true,rI0,V.int.injEq,exists_and_left,exists_eq_left',V.str.injEq,if_true,tAnd,rIxS,rEq,scal_ss,Bool.false_eq_true,if_false,true_and,exists_eq'];have hl:=TL.len_tl x;rw [isdigit_ok hg];unfold num canon at k;cases hd:(!(TL.tl x).isEmpty && (TL.tl x).all dig)
   · rw [hd] at k;exact iteT k
   · refine iteF ?_;rw [hd] at k;simp only [Bool.and_eq_true,Bool.not_eq_true',List.all_eq_true] at hd;obtain ⟨hne,hall⟩:=hd
     cases hx0:TL.tl x with
     | nil=>rw [hx0] at hne; simp at hne
     | cons c r =>
       have e0:atI x.cps.toList 0=some c:=atI_nat (j:=0) (by show (TL.tl x)[0]? = _; rw [hx0]; rfl)
       have e1:((⟨#[c]⟩:Str)=Str.ofString "0")↔c=48:=by
         constructor
         · intro e;have:=congrArg TL.tl e;rw [TL.tl_ofString] at this
           simpa [TL.tl] using this
         · rintro rfl;exact TL.ext_tl (by rw [TL.tl_ofString]; rfl)
       have last:Q (V.int (if (!(decide ((TL.tl x).headD 0=48) && decide (1 < (TL.tl x).length)))=true then (if 4 < (TL.tl x).length then 10000 else (dval (TL.tl x):Int)) else -1)) H:=by simpa using k
       rw [hx0] at last;have last:Q (V.int (if (!(decide (c=48) && decide (1 < (c :: r).length)))=true then (if 4 < (c :: r).length then 10000 else (dval (c :: r):Int)) else -1)) H:=last;have hl2:x.length=(c :: r).length:=by rw [hl,hx0]
       have fin:¬ (c=48∧1 < (c :: r).length)→(x.length≤sizeLine∧if decide (4 < (x.length:Int))=true then Q (V.int 10000) H else ∃ x_3,intText? x=some x_3∧x.length≤640∧Q (V.int x_3) H):=fun hn=>by
         have hcond:(!(decide (c=48) && decide (1 < (c :: r).length)))=true:=by
           simp only [Bool.not_eq_true',Bool.and_eq_false_iff,decide_eq_false_iff_not];by_cases h:c=48
           · exact .inr fun h2=>hn ⟨h,h2⟩
           · exact .inl h
         rw [hcond,if_pos rfl] at last;refine ⟨hx,?_⟩;by_cases h4:4 < (c :: r).length
         · rw [if_pos h4] at last;rw [if_pos (by rw [hl2]; exact decide_eq_true (by omega))];exact last
         · rw [if_neg h4] at last;rw [if_neg (by rw [hl2,decide_eq_true_eq]; omega)];refine ⟨_,PySem.intText_digits (fun c hc=>?_) (by rw [show x.cps.toList=c :: r from hx0]; simp) (by omega),by omega,?_⟩
           · have:=hall c hc;unfold dig at this;simp only [Bool.and_eq_true,decide_eq_true_eq] at this;exact this
           · rw [show x.cps.toList=c :: r from hx0];exact last
       refine ⟨hx,c,e0,?_⟩;by_cases h48:c=48
       · rw [decide_eq_true (e1.mpr h48)];refine iteT ⟨hx,?_⟩;by_cases h1:1 < (c :: r).length
         · have hcond:(!(decide (c=48) && decide (1 < (c :: r).length)))=false:=by rw [decide_eq_true h48,decide_eq_true h1]; rfl
           rw [hcond] at last;rw [if_pos (by rw [hl2]; exact decide_eq_true (by omega))];exact last
         · rw [if_neg (by rw [hl2,decide_eq_true_eq]; omega)];exact fin fun z=>h1 z.2
       · rw [decide_eq_false fun z=>h48 (e1.mp z)];exact iteF (fin fun z=>h48 z.1)
noncomputable abbrev vStrs (ws:List Str):List V:=ws.map V.str
theorem scNumbers:FnScope ["words","word"] ["words"] (defScope sNumbers):=⟨rfl,rfl,rfl,by decide +kernel,rfl,by decide +kernel,by decide +kernel⟩
inductive SpNumbers (K:PySem.W.Frag) (vs:List V) (H:Hp) (Q:VK):Prop
 | mk (a:Addr) (ws:List Str) (h0:vs=[.ref a]) (h1:SqL K H a (vStrs ws)) (h2:ws.length≤100) (h3:(∀ x∈ws,x.length≤sizeLine∧GS x)) (h4:∀ p,H p=none→Q (.ref p) (upd H p (.lst (ws.map fun x=>V.int (num (TL.tl x)))))):SpNumbers K vs H Q
noncomputable def spNumbers (K:PySem.W.Frag):Sp:=fun vs H Q _=>SpNumbers K vs H Q
theorem ok_numbers {f g:Addr} {fd gd:FuncData} (F:Fun K "read_numbers" "read_numbers" sNumbers f fd) (T:Txt K mg) (G:FnOk P w K mg base CX0 1 g gd ["word"] spNumber) (bG:Binds K gd ["word"] []) (hG:mg "read_number" = some (.ref g)) (kG:PySem.W.keepIn K (.ref g)=true) :
   FnOk P w K mg base CX0 2 f fd ["words"] (spNumbers K):=by
 refine F.ok scNumbers (fun vs H Q E h=>?_) (fun cdv A outer s H vs Q E hr h=>?_)
 · obtain ⟨a,ws,rfl,_⟩:=h;rfl
 · obtain ⟨a,ws,rfl,hs,hn,hw,k⟩:=h
   refine ⟨_,pss_one (ps_ret (pe_lc rfl scNumbers.nd (pi_list (pv 0)) (blkOk_by (show blkC ["words","word"] (defScope sNumbers) _ [("word",1)]=true from by decide +kernel)) (fun _ _ _ _ _=>pg_name (i:=1) scNumbers.nd rfl (Or.inl rfl)) (fun _ _ _ _ _=>pts_nil)
     (fun _ _ _ _ _=>pe_call G hr rfl hG kG bG .nil pass0 (pa_cons (pv 1) pa_nil)))),?_⟩
   simp only [tRet,List.map_cons,List.map_nil,L2.start,List.length_cons,List.length_nil,Nat.zero_add,Nat.reduceAdd,Nat.reduceSub,List.replicate,List.cons_append,List.nil_append];refine tLc_map (K:=K) (a:=a) (xs:=vStrs ws) (fun v=>match v with | .str x=>.int (num (TL.tl x)) | _=>.non) (fun R r=>by simp only [iList,tVar,List.getElem?_cons_zero,Option.some.injEq,exists_eq_left',V.ref.injEq]; exact ⟨⟨_,hs⟩,r⟩) hs (by rw [List.length_map]; exact Nat.le_trans hn (by decide)) (fun D i x acc Nx hD hx hz hN=>?_) (fun D hD=>?_)
   · rw [List.getElem?_map] at hx;obtain ⟨y,hy,rfl⟩:=Option.map_eq_some_iff.mp hx;obtain ⟨h1,h2⟩:=hw y (List.mem_of_getElem? hy);simp only [gName,wipe,List.set_cons_succ,List.set_cons_zero,tYes,tCall,tCons,tVar,List.getElem?_cons_succ,List.getElem?_cons_zero,Option.some.injEq,tNil,List.append_nil,exists_eq_left',if_true,true_and];refine ⟨y,rfl,h1,h2,acc,upd_same,hz,?_⟩;rw [upd_upd];exact hN
   · rw [List.map_map];exact k D hD
theorem scWithin:FnScope ["numbers","least","most","number"] ["numbers","least","most"] (defScope sWithin):=⟨rfl,rfl,rfl,by decide +kernel,rfl,by decide +kernel,by decide +kernel⟩
noncomputable abbrev vInts (ns:List Int):List V:=ns.map V.int
inductive SpWithin (K:PySem.W.Frag) (vs:List V) (H:Hp) (Q:VK):Prop
 | mk (a:Addr) (ns:List Int) (lo hi:Int) (h0:vs=[.ref a,.int lo,.int hi]) (h1:SqL K H a (vInts ns)) (h2:ns.length≤100) (h3:∀ H',Same H H'→Q (.bl (allIn lo hi ns)) H'):SpWithin K vs H Q
noncomputable def spWithin (K:PySem.W.Frag):Sp:=fun vs H Q _=>SpWithin K vs H Q
theorem ok_within {f:Addr} {fd:FuncData} (F:Fun K "all_within" "all_within" sWithin f fd) (T:Txt K mg):FnOk P w K mg base CX0 1 f fd ["numbers","least","most"] (spWithin K):=by
 refine F.ok scWithin (fun vs H Q E h=>?_) (fun cdv A outer s H vs Q E hr h=>?_)
 · obtain ⟨a,ns,lo,hi,rfl,_⟩:=h;rfl
 · obtain ⟨a,ns,lo,hi,rfl,hs,hn,k⟩:=h
   refine ⟨_,pss_one (ps_ret (pe_callB (cr_all rfl) (by rfl) T.all (by decide +kernel) (pa_cons (pe_lc rfl scWithin.nd (pi_list (pv 0)) (blkOk_by (show blkC ["numbers","least","most","number"] (defScope sWithin) _ [("number",3)]=true from by decide +kernel)) (fun _ _ _ _ _=>pg_name (i:=3) scWithin.nd rfl (Or.inl rfl)) (fun _ _ _ _ _=>pts_nil)
     (fun _ _ _ _ _=>pe_chain op_le op_le (pv 1) (pv 3) (pv 2))) pa_nil))),?_⟩
   simp only [tRet,tCB,tCons,List.map_cons,List.map_nil,L2.start,List.length_cons,List.length_nil,Nat.zero_add,Nat.reduceAdd,Nat.reduceSub,List.replicate,List.cons_append,List.nil_append,tNil,rAll,List.cons.injEq,and_true,exists_and_left];refine tLc_map (K:=K) (a:=a) (xs:=vInts ns) (fun v=>match v with | .int x=>.bl (decide (lo≤x) && decide (x≤hi)) | _=>.non) (fun R r=>by simp only [iList,tVar,List.getElem?_cons_zero,Option.some.injEq,exists_eq_left',V.ref.injEq]; exact ⟨⟨_,hs⟩,r⟩) hs (by rw [List.length_map]; exact Nat.le_trans hn (by decide)) (fun D i x acc Nx hD hx hz hN=>?_) (fun D hD=>?_)
   · rw [List.getElem?_map] at hx;obtain ⟨y,hy,rfl⟩:=Option.map_eq_some_iff.mp hx;simp only [gName,wipe,List.set_cons_succ,List.set_cons_zero,tYes,tChain,tVar,List.getElem?_cons_succ,List.getElem?_cons_zero,Option.some.injEq,rI0,V.bl.injEq,exists_and_left,exists_eq_left',V.int.injEq,if_true,true_and];by_cases h1:lo≤y
     · have hN:Nx (upd H D (.lst (acc++[V.bl (decide (lo≤y) && decide (y≤hi))]))):=hN;rw [decide_eq_true h1,Bool.true_and] at hN;rw [decide_eq_true h1];refine iteT ⟨acc,upd_same,hz,?_⟩;rw [upd_upd];exact hN
     · have hN:Nx (upd H D (.lst (acc++[V.bl (decide (lo≤y) && decide (y≤hi))]))):=hN;rw [decide_eq_false h1,Bool.false_and] at hN;rw [decide_eq_false h1];refine iteF ⟨acc,upd_same,hz,?_⟩;rw [upd_upd];exact hN
   · simp only [V.ref.injEq,exists_eq_left'];refine ⟨ns.map fun y=>decide (lo≤y) && decide (y≤hi),?_,?_⟩
     · rw [List.map_map,List.map_map];exact SqL.of upd_same
     · have e:(ns.map fun y=>decide (lo≤y) && decide (y≤hi)).all id=allIn lo hi ns:=by
         unfold allIn;rw [List.all_map];rfl
       rw [e];exact k _ (same_new hD)
end
end Ho
end
section
set_option Elab.async false
set_option linter.all false
set_option maxRecDepth 100000
namespace Ho
open PySem hiding start
open PySem.Spec
open PyProof.Rows hiding St
open L2
noncomputable abbrev sSplit:Stmt:=top 27
noncomputable def signs:Cs:=[10,32,48,49,50,51,52,53,54,55,56,57,97,98,99,100,101,102,103,104,105,106,107,108,109,110,111,112,113,114,115,116,117,118,119,120,121,122]
noncomputable def tab (l:Cs):Cs:=l.foldl (fun R c=>R.set c c) (List.replicate 256 63)
theorem tab_all:∀ b:Fin 256,(tab signs)[b.val]? = some (sg b.val):=by decide +kernel
theorem tab_len:∀ (l:Cs) (R:Cs),(l.foldl (fun R c=>R.set c c) R).length=R.length
 | [],R=>rfl
 | c :: l,R=>by rw [List.foldl_cons,tab_len l,List.length_set]
noncomputable abbrev one (c:Nat):V:=.str ⟨#[c]⟩
structure Txt2 (K:PySem.W.Frag) (mg:Str→Option Value):Prop where
 ord:mg "ord" = none
 NS:∃ t,mg "NO_SIGN" = some (.str "?" t)
 SI:∃ t,mg "SIGNS" = some (.str "\n 0123456789abcdefghijklmnopqrstuvwxyz" t)
section
variable {P:Program} {w:World} {K:PySem.W.Frag} {mg:Str→Option Value} {base:Heap}
theorem cutN_hit (c:Nat) (r:Cs):cutN c (c :: r)=[] :: cutN c r:=by
 show (if c=c then _ else _)=_;rw [if_pos rfl]
theorem cutN_miss {c x:Nat} (h:x≠c) (r:Cs):cutN c (x :: r)=match cutN c r with | []=>[[x]] | w :: l=>(x :: w) :: l:=by
 show (if x=c then _ else _)=_;exact if_neg h
theorem spl_cut (c:Nat):∀ (l acc:Cs),TL.spl [c] 0 acc l=match cutN c l with | []=>[acc] | x :: r=>(acc++x) :: r
 | [],acc=>by rw [TL.spl_nil]; simp [cutN]
 | x :: r,acc=>by
   by_cases h:x=c
   · subst h;rw [TL.spl_hit (by simp [TL.pre]),cutN_hit];have ih:=spl_cut x r [];simp only [List.length_singleton,Nat.sub_self];rw [ih]
     cases h:cutN x r with
     | nil=>exact absurd h (by cases r with | nil=>simp [cutN] | cons y r=>unfold cutN; split; simp; split <;> simp)
     | cons y z=>simp
   · rw [TL.spl_miss (by simp [TL.pre,h]),spl_cut c r,cutN_miss h]
     cases cutN c r with
     | nil=>simp
     | cons y z=>simp
theorem cutN_ne (c:Nat):∀ l:Cs,cutN c l≠[]
 | []=>by simp [cutN]
 | x :: r=>by
   unfold cutN;split
   · simp
   · split <;> simp
theorem spl_cut0 (c:Nat) (l:Cs):TL.spl [c] 0 [] l=cutN c l:=by
 rw [spl_cut]
 cases h:cutN c l with
 | nil=>exact absurd h (cutN_ne c l)
 | cons x r=>rfl
theorem split_cut {x y:Str} {c:Nat} (hy:TL.tl y=[c]) (hc:c < 256):(PySem.Txt.split x y).map TL.tl=cutN c (TL.tl x):=by
 rw [TL.split_spl x y (by rw [hy]; simp) (TL.kind_ok (by rw [← Array.all_toList,show y.cps.toList=[c] from hy]; simpa using hc)),hy,spl_cut0]
theorem joinL_one:∀ l:Cs,TL.joinL [] (l.map fun c=>[c])=l
 | []=>rfl
 | [c]=>rfl
 | c :: d :: r=>by
   have ih:=joinL_one (d :: r);show [c]++([]++TL.joinL [] ((d :: r).map fun c=>[c]))=_;rw [ih];rfl
theorem join_one (l:Cs):TL.tl (PySem.Txt.join (Str.ofString "") (l.map fun c=>(⟨#[c]⟩:Str)))=l:=by
 rw [TL.join_eq,TL.tl_join,TL.tl_ofString,List.map_map];exact joinL_one l
theorem scSplit:FnScope ["text","signs","sign","byte"] ["text"] (defScope sSplit):=⟨rfl,rfl,rfl,by decide +kernel,rfl,by decide +kernel,by decide +kernel⟩
inductive SpSplit (K:PySem.W.Frag) (vs:List V) (H:Hp) (Q:VK):Prop
 | mk (a:Addr) (ns:List Int) (h0:vs=[.ref a]) (h1:SqL K H a (vInts ns)) (h2:ns.length≤65600) (h3:(∀ n∈ns,0≤n∧n≤255)) (h4:∀ (H':Hp) (p:Addr) (ls:List Str),Same H H'→H p=none→H' p=some (.lst (vStrs ls))→ls.map TL.tl=cutN 10 (ns.map fun n=>sg n.toNat)→Q (.ref p) H'):SpSplit K vs H Q
noncomputable def spSplit (K:PySem.W.Frag):Sp:=fun vs H Q _=>SpSplit K vs H Q
theorem ok_split {f:Addr} {fd:FuncData} (F:Fun K "split_lines" "split_lines" sSplit f fd) (T:Txt2 K mg):FnOk P w K mg base CX0 1 f fd ["text"] (spSplit K):=by
 refine F.ok scSplit (fun vs H Q E h=>?_) (fun cdv A outer s H vs Q E hr h=>?_)
 · obtain ⟨a,ns,rfl,_⟩:=h;rfl
 · obtain ⟨a,ns,rfl,hs,hn,hb,k⟩:=h
   refine ⟨_,pss_cons (ps_set (i:=1) scSplit.nd rfl (Or.inr rfl) (pe_op op_rep (pe_lst (pa_cons (pe_gs T.NS) pa_nil)) pe_int))
     (pss_cons (ps_for PassesOwn.never rfl (pi_str (pe_gs T.SI)) (pg_name (i:=2) scSplit.nd rfl (Or.inl rfl)) (pss_one (ps_asg (pv 2) (pg_sub (pv 1) (pe_callB call_ord (by rfl) T.ord (by decide +kernel) (pa_cons (pv 2) pa_nil)) set_list))))
     (pss_one (ps_ret (pe_split (pe_join pe_str (pe_lc rfl scSplit.nd (pi_list (pv 0)) (blkOk_by (show blkC ["text","signs","sign","byte"] (defScope sSplit) _ [("byte",3)]=true from by decide +kernel)) (fun _ _ _ _ _=>pg_name (i:=3) scSplit.nd rfl (Or.inl rfl)) (fun _ _ _ _ _=>pts_nil)
       (fun _ _ _ _ _=>pe_ix (r:=rIxL K) ix_list (pv 1) (pv 3) (fun _ _=>rfl)))) pe_str)))),?_⟩
   simp only [tSeq,tAsg,tOp,tLst,tCons,tC,tNil,List.length_cons,List.length_nil,Nat.zero_add,rRep,V.ref.injEq,V.int.injEq,gName,exists_and_left,List.map_cons,List.map_nil,L2.start,Nat.reduceAdd,Nat.reduceSub,List.replicate,List.cons_append,List.nil_append,List.set_cons_succ,List.set_cons_zero,exists_eq_left',upd_same,Option.some.injEq,HO.lst.injEq];refine ⟨by decide,fun p hp=>⟨by decide,by decide,by decide,fun q hq=>?_⟩⟩;have hsz:(Str.ofString "\n 0123456789abcdefghijklmnopqrstuvwxyz").cps.toList=signs:=(TL.tl_ofString _).trans (by decide +kernel);have hsn:(Str.ofString "\n 0123456789abcdefghijklmnopqrstuvwxyz").cps.size=signs.length:=by rw [← hsz,Array.length_toList]
   have hq0:H q=none:=(same_new hp).free hq;have hpq:p≠q:=fun e=>by rw [← e,upd_same] at hq; cases hq
   have haq:∀ o o',Same H (upd (upd H p o) q o'):=fun o o' b u e=>by
     rw [upd_ne (ne_of_none e hq0),upd_ne (ne_of_none e hp)];exact e
   refine tFor_str (fun i σ H'=>∃ v,σ=[some (V.ref a),some (V.ref q),v,none]∧∃ o,H'=upd (upd H p o) q (.lst ((tab (signs.take i)).map one))) (fun R r=>by simp only [iStr,tC,V.str.injEq,exists_eq_left']; exact r) ⟨none,rfl,.lst [V.str (Str.ofString "?")],?_⟩ ?_ ?_
   · have e:(List.replicate (Int.toNat 256) [V.str (Str.ofString "?")]).flatten=(tab (signs.take 0)).map one:=by
       show (List.replicate 256 [V.str (Str.ofString "?")]).flatten=(List.replicate 256 63).map one;rw [List.map_replicate]
       have z:∀ n:Nat,(List.replicate n [V.str (Str.ofString "?")]).flatten=List.replicate n (one 63):=fun n=>by
         induction n with
         | zero=>rfl
         | succ n ih =>
           rw [List.replicate_succ,List.flatten_cons,ih,List.replicate_succ];rfl
       exact z 256
     rw [e]
   · rintro i c σ H' hc ⟨v,rfl,o,rfl⟩
     have hc':signs[i]? = some c:=by
       rw [← hsz,Array.getElem?_toList];exact hc
     have hc256:c < 256:=by
       have:∀ x∈signs,x < 256:=by decide
       exact this c (List.mem_of_getElem? hc')
     simp only [gName,tAsg,tVar,List.set_cons_succ,List.set_cons_zero,List.getElem?_cons_succ,List.getElem?_cons_zero,Option.some.injEq,gSub,tCB,tCons,tNil,List.cons.injEq,and_true,rSetL,V.int.injEq,true_and,exists_eq_left',exists_and_left,V.str.injEq,V.ref.injEq,upd_same,HO.lst.injEq];refine ⟨rfl,c,?_,o,?_⟩
     · unfold ixN;rw [List.length_map,tab,tab_len,List.length_replicate,if_pos (by omega),if_pos (by show ((#[c].getD 0 0:Nat):Int) < _; show (c:Int) < _; omega)];rfl
     · rw [upd_upd];congr 2;rw [List.take_succ,hc',tab,tab,Option.toList_some,List.foldl_append,List.foldl_cons,List.foldl_nil,List.map_set]
   · rintro σ H' ⟨v,rfl,o,rfl⟩;rw [hsn,List.take_length];simp only [tRet,tM1,tC,V.str.injEq,exists_eq',List.cons.injEq,and_true,exists_eq_left',true_and];have hn2:ns.length≤sizeLine:=Nat.le_trans hn (by decide);have hlen:(tab signs).length=256:=by rw [tab,tab_len,List.length_replicate]
     have hs2:SqL K (upd (upd H p o) q (.lst ((tab signs).map one))) a (vInts ns):=(haq _ _).seq hs;refine tLc_map (K:=K) (a:=a) (xs:=vInts ns) (fun v=>match v with | .int n=>one (sg n.toNat) | _=>.non) (fun R r=>by simp only [iList,tVar,List.getElem?_cons_zero,Option.some.injEq,exists_eq_left',V.ref.injEq]; exact ⟨⟨_,hs2⟩,r⟩) hs2 (by rw [List.length_map]; exact hn2) (fun D i x acc Nx hD hx hz hN=>?_) (fun D hD=>?_)
     · rw [List.getElem?_map] at hx;obtain ⟨y,hy,rfl⟩:=Option.map_eq_some_iff.mp hx;obtain ⟨y0,y1⟩:=hb y (List.mem_of_getElem? hy);obtain ⟨m,rfl⟩:=Int.eq_ofNat_of_zero_le y0;have hm:m < 256:=by omega
       simp only [gName,wipe,List.set_cons_succ,List.set_cons_zero,tYes,tOp,tVar,List.getElem?_cons_succ,List.getElem?_cons_zero,Option.some.injEq,rIxL,upd_same,HO.lst.injEq,exists_eq_left',exists_and_left,V.int.injEq,V.ref.injEq,if_true,true_and];refine ⟨(tab signs).map one,SqL.of (by rw [upd_ne (ne_of_none upd_same hD)]; exact upd_same),one (sg m),atI_nat (j:=m) (by rw [List.getElem?_map,tab_all ⟨m,hm⟩]; rfl),hz,?_⟩;rw [upd_upd];exact hN
     · simp only [V.ref.injEq,rNewStrs,exists_eq_left']
       have e:(vInts ns).map (fun v=>match v with | .int n=>one (sg n.toNat) | _=>.non)=((ns.map fun n=>sg n.toNat).map fun c=>(⟨#[c]⟩:Str)).map V.str:=by
         rw [List.map_map,List.map_map,List.map_map];rfl
       have hj:=join_one (ns.map fun n=>sg n.toNat);have hjl:(PySem.Txt.join (Str.ofString "") ((ns.map fun n=>sg n.toNat).map fun c=>(⟨#[c]⟩:Str))).length=ns.length:=by rw [TL.len_tl,hj,List.length_map]
       refine ⟨(ns.map fun n=>sg n.toNat).map fun c=>(⟨#[c]⟩:Str),.inl (by rw [e]; exact SqL.of upd_same),?_,by decide,?_,fun r hr2=>?_⟩
       · have z:∀ l:Cs,((l.map fun c=>(⟨#[c]⟩:Str)).map (·.length)).sum=l.length:=fun l=>by
           induction l with
           | nil=>rfl
           | cons c l ih =>
             rw [List.map_cons,List.map_cons,List.sum_cons,ih,List.length_cons,Nat.add_comm];rfl
         rw [z,List.length_map,List.length_map];have e0:(Str.ofString "").length=0:=by decide
         rw [e0];omega
       · rw [hjl];have:sizeLine=16777216:=sizeLine_eq;omega
       · refine k _ r _ ?_ ?_ upd_same ?_
         · exact ((haq _ _).trans (same_new hD)).trans (same_new hr2)
         · exact ((haq _ _).trans (same_new hD)).free hr2
         · rw [split_cut (c:=10) ((TL.tl_ofString _).trans (by decide)) (by decide),hj]
end
end Ho
end
section
set_option Elab.async false
set_option linter.all false
set_option maxRecDepth 100000
namespace Ho
open PySem hiding start
open PySem.Spec
open PyProof.Rows hiding St
open L2
noncomputable abbrev sCross:Stmt:=top 32
noncomputable abbrev sWays:Stmt:=top 33
noncomputable abbrev Tri:=Int × Int × Int
noncomputable def steps:List Tri:=[(1,0,0),(-1,0,0),(0,1,0),(0,-1,0),(0,0,1),(0,0,-1)]
noncomputable def cr (a b:Tri):Tri:=(a.2.1*b.2.2 - a.2.2*b.2.1,a.2.2*b.1 - a.1*b.2.2,a.1*b.2.1 - a.2.1*b.1)
noncomputable def sml (z:Int):Prop:=-2≤z∧z≤2
noncomputable def sm3 (t:Tri):Prop:=sml t.1∧sml t.2.1∧sml t.2.2
theorem sml.mul {z y:Int} (h:sml z):CMul z y:=.inl ⟨by have:=h.1; omega,by have:=h.2; omega⟩
structure Txt3 (K:PySem.W.Frag) (mg:Str→Option Value) (aW:Addr) (ts:List Addr):Prop where
 WG:∃ t,mg "WAY_SIGNS" = some (.str "rlbfud" t)
 WS:mg "WAY_STEPS" = some (.ref aW)
 sq:∀ H,SqT K H aW (ts.map V.ref)
 ty:∀ H,tyV K "tuple" (.ref aW) H
 ln:ts.length=6
 it:∀ (i:Nat) (p:Addr) (t:Tri),ts[i]? = some p→steps[i]? = some t→∀ H,SqT K H p (v3 t)
section
variable {P:Program} {w:World} {K:PySem.W.Frag} {mg:Str→Option Value} {base:Heap}
theorem scCross:FnScope ["a","b"] ["a","b"] (defScope sCross):=⟨rfl,rfl,rfl,by decide +kernel,rfl,by decide +kernel,by decide +kernel⟩
inductive SpCross (K:PySem.W.Frag) (vs:List V) (H:Hp) (Q:VK):Prop
 | mk (a b:Addr) (t u:Tri) (h0:vs=[.ref a,.ref b]) (h1:SqT K H a (v3 t)) (h2:SqT K H b (v3 u)) (h3:sm3 t) (h4:sm3 u) (h5:∀ p,H p=none→Q (.ref p) (upd H p (.tup (v3 (cr t u))))):SpCross K vs H Q
noncomputable def spCross (K:PySem.W.Frag):Sp:=fun vs H Q _=>SpCross K vs H Q
theorem ixT1 {σ:St} {H:Hp} {Q:VK} {i:Nat} {n:Int} {a:Addr} {xs:List V} {v:V} (e:σ[i]? = some (some (.ref a))) (h:SqT K H a xs) (h2:atI xs n=some v) (k:Q v H):tOp (rIxT K) (tVar i) (tC (.int n)) σ H Q:=⟨_,e,a,xs,n,v,rfl,rfl,h,h2,k⟩
theorem cross_term {σ:St} {H:Hp} {Q:VK} {a b:Addr} {xs ys:List V} {i j k l p q r s:Int} (ea:σ[0]? = some (some (.ref a))) (eb:σ[1]? = some (some (.ref b))) (ha:SqT K H a xs) (hb:SqT K H b ys) (hp:atI xs i=some (.int p)) (hq:atI ys j=some (.int q)) (hr:atI xs k=some (.int r)) (hs:atI ys l=some (.int s)) (c1:CMul p q) (c2:CMul r s) (h:Q (.int (p*q - r*s)) H) :
   tOp (rI0 fun i j=>.int (i - j)) (tOp (rI CMul fun i j=>.int (i*j)) (tOp (rIxT K) (tVar 0) (tC (.int i))) (tOp (rIxT K) (tVar 1) (tC (.int j)))) (tOp (rI CMul fun i j=>.int (i*j)) (tOp (rIxT K) (tVar 0) (tC (.int k))) (tOp (rIxT K) (tVar 1) (tC (.int l)))) σ H Q :=
 ixT1 ea ha hp (ixT1 eb hb hq ⟨p,q,rfl,rfl,c1,ixT1 ea ha hr (ixT1 eb hb hs ⟨r,s,rfl,rfl,c2,_,_,rfl,rfl,h⟩)⟩)
theorem ok_cross {f:Addr} {fd:FuncData} (F:Fun K "cross" "cross" sCross f fd):FnOk P w K mg base CX0 1 f fd ["a","b"] (spCross K):=by
 refine F.ok scCross (fun vs H Q E h=>?_) (fun cdv A outer s H vs Q E hr h=>?_)
 · obtain ⟨a,b,t,u,rfl,_⟩:=h;rfl
 · obtain ⟨a,b,t,u,rfl,ha,hb,st,su,k⟩:=h
   refine ⟨_,pss_one (ps_ret (pe_tup (pa_cons (pe_op op_sub (pe_op op_mul (pe_ix ix_tup (pv 0) pe_int (fun _ _=>rfl)) (pe_ix ix_tup (pv 1) pe_int (fun _ _=>rfl))) (pe_op op_mul (pe_ix ix_tup (pv 0) pe_int (fun _ _=>rfl)) (pe_ix ix_tup (pv 1) pe_int (fun _ _=>rfl))))
     (pa_cons (pe_op op_sub (pe_op op_mul (pe_ix ix_tup (pv 0) pe_int (fun _ _=>rfl)) (pe_ix ix_tup (pv 1) pe_int (fun _ _=>rfl))) (pe_op op_mul (pe_ix ix_tup (pv 0) pe_int (fun _ _=>rfl)) (pe_ix ix_tup (pv 1) pe_int (fun _ _=>rfl))))
     (pa_cons (pe_op op_sub (pe_op op_mul (pe_ix ix_tup (pv 0) pe_int (fun _ _=>rfl)) (pe_ix ix_tup (pv 1) pe_int (fun _ _=>rfl))) (pe_op op_mul (pe_ix ix_tup (pv 0) pe_int (fun _ _=>rfl)) (pe_ix ix_tup (pv 1) pe_int (fun _ _=>rfl)))) pa_nil))))),?_⟩
   refine cross_term (p:=t.2.1) (q:=u.2.2) (r:=t.2.2) (s:=u.2.1) rfl rfl ha hb rfl rfl rfl rfl st.2.1.mul st.2.2.mul ?_;refine cross_term (p:=t.2.2) (q:=u.1) (r:=t.1) (s:=u.2.2) rfl rfl ha hb rfl rfl rfl rfl st.2.2.mul st.1.mul ?_;refine cross_term (p:=t.1) (q:=u.2.1) (r:=t.2.1) (s:=u.1) rfl rfl ha hb rfl rfl rfl rfl st.1.mul st.2.1.mul ?_;exact ⟨(by show 3≤sizeLine; decide),fun p hp=>k p hp⟩
theorem find_all:∀ c:Fin 128,PySem.Txt.find (Str.ofString "rlbfud") ⟨#[c.val]⟩=wayOf c.val:=by decide +kernel
theorem find_way {c:Nat} (h:Gd c):PySem.Txt.find (Str.ofString "rlbfud") ⟨#[c]⟩=wayOf c:=find_all ⟨c,gd_lt h⟩
theorem wayOf_range (c:Nat):wayOf c = -1∨∃ m:Nat,m < 6∧wayOf c=(m:Int):=by
 unfold wayOf
 repeat' split
 all_goals first | exact .inl rfl | exact .inr ⟨0,by decide,rfl⟩ | exact .inr ⟨1,by decide,rfl⟩ | exact .inr ⟨2,by decide,rfl⟩ | exact .inr ⟨3,by decide,rfl⟩ | exact .inr ⟨4,by decide,rfl⟩ | exact .inr ⟨5,by decide,rfl⟩
theorem up_ok:∀ a b:Fin 6,a.val / 2≠b.val / 2→steps[Jo.upOf a.val b.val]? = some (cr (steps.getD a.val (0,0,0)) (steps.getD b.val (0,0,0)))∧∀ m:Fin 6,m.val < Jo.upOf a.val b.val→steps[m.val]?≠some (cr (steps.getD a.val (0,0,0)) (steps.getD b.val (0,0,0))):=by decide +kernel
theorem steps_small:∀ a:Fin 6,sm3 (steps.getD a.val (0,0,0)):=by
 unfold sm3 sml;decide
theorem scWays:FnScope ["word","ways","sign"] ["word"] (defScope sWays):=⟨rfl,rfl,rfl,by decide +kernel,rfl,by decide +kernel,by decide +kernel⟩
inductive SpWays (vs:List V) (H:Hp) (Q:VK):Prop
 | mk (x:Str) (h0:vs=[.str x]) (h1:x.length < sizeLine) (h2:GS x) (h3:∀ (H':Hp) (p:Addr),Same H H'→H p=none→H' p=some (.lst (vInts (readWays (TL.tl x))))→Q (.ref p) H'):SpWays vs H Q
noncomputable def spWays:Sp:=fun vs H Q _=>SpWays vs H Q
theorem ok_ways {f g aW:Addr} {ts:List Addr} {fd gd:FuncData} (F:Fun K "read_ways" "read_ways" sWays f fd) (T1:Txt K mg) (T:Txt3 K mg aW ts) (G:FnOk P w K mg base CX0 1 g gd ["a","b"] (spCross K)) (bG:Binds K gd ["a","b"] []) (hG:mg "cross" = some (.ref g)) (kG:PySem.W.keepIn K (.ref g)=true) :
   FnOk P w K mg base CX0 2 f fd ["word"] spWays:=by
 refine F.ok scWays (fun vs H Q E h=>?_) (fun cdv A outer s H vs Q E hr h=>?_)
 · obtain ⟨x,rfl,_⟩:=h;rfl
 · obtain ⟨x,rfl,hx,hg,k⟩:=h;have hu65:(A.deeper (envOfC (Str.ofString "read_ways") (defScope sWays) s.heap.objs.size f cdv)).units+65 < cLine:=by have:=hr.un; omega
   refine ⟨_,pss_cons (ps_setLc rfl scWays.nd (i:=1) rfl rfl (sw_true rfl rfl rfl (by decide +kernel)) (pi_str (pv 0)) (blkOk_by (show blkC ["word","ways","sign"] (defScope sWays) _ [("sign",2)]=true from by decide +kernel)) (fun _ _ _ _ _=>pg_name (i:=2) scWays.nd rfl (Or.inl rfl)) (fun _ _ _ _ _=>pts_nil)
       (fun _ _ _ _ _=>pe_m1 PySem.F.slot_str_find PySem.F.type_str_find mt_find (pe_gs T.WG) (pv 2)))
     (pss_cons (ps_if (PW.pt (pw_or (pt_cmpR op_ne (pe_callB call_len_seq (by rfl) T1.len PySem.boot_len (pa_cons (pv 1) pa_nil)) pe_int (nomark _))
         (pw_or (pt_cmpR op_in_seq (pe_un un_neg pe_int) (pv 1) (by with_unfolding_all rfl))
         (pw_or1 (pt_cmpR op_eq (pe_op op_fdiv (pe_ix ix_list (pv 1) pe_int (fun _ _=>rfl)) pe_int) (pe_op op_fdiv (pe_ix ix_list (pv 1) pe_int (fun _ _=>rfl)) pe_int) (nomark _))))))
       (pss_one (ps_ret (pe_lst pa_nil))) pss_nil)
     (pss_one (ps_ret (pe_op op_cat (pv 1) (pe_lst (pa_cons (pe_bm PySem.F.plainAttrs_tuple PySem.F.slot_tuple_index PySem.F.type_tuple_index (mt_tindex hu65) (pe_gr T.WS) (pa_cons (pe_call G hr rfl hG kG bG .nil pass0
       (pa_cons (pe_ix ix_tup (pe_gr T.WS) (pe_ix ix_list (pv 1) pe_int (fun _ _=>rfl)) (fun _ _=>rfl)) (pa_cons (pe_ix ix_tup (pe_gr T.WS) (pe_ix ix_list (pv 1) pe_int (fun _ _=>rfl)) (fun _ _=>rfl)) pa_nil))) pa_nil)) pa_nil)))))),?_⟩
   simp only [tSeq,tAsg,exists_and_left,List.map_cons,List.map_nil,L2.start,List.length_cons,List.length_nil,Nat.zero_add,Nat.reduceAdd,Nat.reduceSub,List.replicate,List.cons_append,List.nil_append,gName,tIfS,tOr,tTest,tOp,tCB,tCons,tVar,List.set_cons_succ,List.set_cons_zero,List.getElem?_cons_succ,List.getElem?_cons_zero,Option.some.injEq,tNil,List.cons.injEq,and_true,tC,rNe,scal_ii,V.int.injEq,V.bl.injEq,tRet,tNext,exists_eq_left',if_true,tUn,rU,rIxL,rI,rEq,true_and];have hcs:x.cps.size=(TL.tl x).length:=by simp [TL.tl]
   refine tLc_str (x:=x) (fun D i H'=>H D=none∧H'=upd H D (.lst (vInts ((TL.tl x).take i |>.map wayOf)))) (fun R r=>by simp only [iStr,tVar,List.getElem?_cons_zero,Option.some.injEq,exists_eq_left',V.str.injEq]; exact r) (fun D hD=>⟨hD,rfl⟩) ?_ ?_
   · rintro D i c H' hc ⟨hD,rfl⟩
     have hc':(TL.tl x)[i]? = some c:=by
       show x.cps.toList[i]? = _;rw [Array.getElem?_toList];exact hc
     have hi:i < (TL.tl x).length:=(List.getElem?_eq_some_iff.mp hc').1;simp only [gName,wipe,List.set_cons_succ,List.set_cons_zero,tYes,tM1,tC,V.str.injEq,exists_eq',tVar,List.getElem?_cons_succ,List.getElem?_cons_zero,Option.some.injEq,List.cons.injEq,and_true,upd_same,HO.lst.injEq,exists_eq_left',true_and,if_true];refine ⟨?_,hD,?_⟩
     · rw [List.length_map,List.length_map,List.length_take,← hcs];have:x.length=x.cps.size:=rfl;omega
     · rw [upd_upd,find_way (hg c (List.mem_of_getElem? hc')),List.take_succ,hc',Option.toList_some,List.map_append];simp
   · rintro D H' ⟨hD,rfl⟩;rw [hcs,List.take_length];simp only [V.ref.injEq,tLst,tNil,List.length_nil,rIn,Bool.false_eq_true,if_false,V.bl.injEq,tCons,tBM,tC,tCall,tOp,tVar,List.getElem?_cons_succ,List.getElem?_cons_zero,Option.some.injEq,rIxL,V.int.injEq,rIxT,List.append_nil,List.length_cons,Nat.zero_add,rCat,exists_and_left,exists_eq_left',upd_same,HO.lst.injEq];have hS:SqL K (upd H D (.lst (vInts ((TL.tl x).map wayOf)))) D (vInts ((TL.tl x).map wayOf)):=SqL.of upd_same
     have em:readWays (TL.tl x)=[]→(0≤sizeLine∧∀ (p:Addr),upd H D (HO.lst (vInts (List.map wayOf (TL.tl x)))) p=none→Q (V.ref p) (upd (upd H D (HO.lst (vInts (List.map wayOf (TL.tl x))))) p (HO.lst []))):=fun e =>
       ⟨Nat.zero_le _,fun p hp=>k _ p ((same_new hD).trans (same_new hp)) ((same_new hD).free hp) (by rw [upd_same,e]; rfl)⟩
     have rg:∀ z∈(TL.tl x).map wayOf,z = -1∨∃ m:Nat,m < 6∧z=(m:Int):=fun z hz=>by
       obtain ⟨c,_,rfl⟩:=List.mem_map.mp hz;exact wayOf_range c
     have eR:readWays (TL.tl x)=match (TL.tl x).map wayOf with | [a,b]=>(if a = -1∨b = -1∨a / 2=b / 2 then [] else [a,b,(Jo.upOf a.toNat b.toNat:Nat)]) | _=>[]:=rfl
     refine ⟨_,.inl hS,?_⟩;generalize hl:(TL.tl x).map wayOf=l at *;by_cases h2:l.length=2
     · rw [if_neg (by rw [List.length_map,h2]; decide)]
       match l,h2 with
       | [a,b],_ =>
         refine ⟨_,.inl hS,rfl,rfl,?_⟩;have eR:readWays (TL.tl x)=(if a = -1∨b = -1∨a / 2=b / 2 then [] else [a,b,(Jo.upOf a.toNat b.toNat:Nat)]):=eR
         have ein:inV (V.int (-1)) (vInts [a,b])=decide (a = -1∨b = -1):=by
           show (a == -1 || (b == -1 || false))=_;rw [Bool.eq_iff_iff];simp
         rw [ein];by_cases h1:a = -1∨b = -1
         · rw [decide_eq_true h1];refine iteT (em ?_);rw [eR,if_pos (by rcases h1 with h | h; exact .inl h; exact .inr (.inl h))]
         · rw [decide_eq_false h1];refine iteF ⟨_,hS,.int a,rfl,a,rfl,⟨by decide,by decide⟩,_,hS,.int b,rfl,b,rfl,⟨by decide,by decide⟩,?_⟩;by_cases h3:a / 2=b / 2
           · rw [decide_eq_true h3];refine iteT (em ?_);rw [eR,if_pos (.inr (.inr h3))]
           · rw [decide_eq_false h3];rw [if_neg (by rintro (h | h | h); exact h1 (.inl h); exact h1 (.inr h); exact h3 h)] at eR;obtain ⟨m,hm,rfl⟩:=(rg a (by simp)).resolve_left fun e=>h1 (.inl e);obtain ⟨n,hn,rfl⟩:=(rg b (by simp)).resolve_left fun e=>h1 (.inr e);have hmn:m / 2≠n / 2:=fun e=>h3 (by omega);obtain ⟨u1,u2⟩:=up_ok ⟨m,hm⟩ ⟨n,hn⟩ hmn;obtain ⟨pm,gm⟩:∃ p,ts[m]? = some p:=⟨_,List.getElem?_eq_getElem (by rw [T.ln]; exact hm)⟩;obtain ⟨pn,gn⟩:∃ p,ts[n]? = some p:=⟨_,List.getElem?_eq_getElem (by rw [T.ln]; exact hn)⟩;have sm':∀ q:_root_.Fin 6,steps[q.val]? = some (steps.getD q.val (0,0,0)):=by decide
             refine iteF ⟨T.ty _,_,hS,.int m,rfl,?_⟩;refine ⟨_,_,rfl,T.sq _,.ref pm,atI_nat (by rw [List.getElem?_map,gm]; rfl),_,hS,.int n,rfl,_,_,rfl,T.sq _,.ref pn,atI_nat (by rw [List.getElem?_map,gn]; rfl),?_⟩;refine ⟨pm,pn,_,_,rfl,T.it m pm _ gm (sm' ⟨m,hm⟩) _,T.it n pn _ gn (sm' ⟨n,hn⟩) _,steps_small ⟨m,hm⟩,steps_small ⟨n,hn⟩,fun q hq=>?_⟩
             have hup:Jo.upOf m n < 6:=by
               have:=(List.getElem?_eq_some_iff.mp u1).1;exact this
             refine ⟨aW,ts,steps,q,_,Jo.upOf m n,rfl,rfl,T.sq _,T.ln,fun i p t' h1 h2=>T.it i p t' h1 h2 _,SqT.of upd_same,u1,fun m' hm' t' h' e=>u2 ⟨m',by omega⟩ hm' (by rw [← e]; exact h'),by decide,fun r hr2=>?_⟩;have hDq:D≠q:=ne_of_none upd_same hq;have hDr:D≠r:=ne_of_none (by rw [upd_ne hDq]; exact upd_same) hr2;refine ⟨_,by rw [upd_ne hDr,upd_ne hDq]; exact upd_same,(by show 3≤sizeLine; decide),fun z hz=>?_⟩;refine k _ z ((((same_new hD).trans (same_new hq)).trans (same_new hr2)).trans (same_new hz)) ((((same_new hD).trans (same_new hq)).trans (same_new hr2)).free hz) ?_;rw [upd_same,eR];rfl
     · rw [if_pos (by rw [List.length_map,Bool.not_eq_true',decide_eq_false_iff_not]; omega)];refine em ?_;rw [eR]
       match l,h2 with
       | [],_=>rfl
       | [_],_=>rfl
       | [_,_],h=>exact absurd rfl h
       | _ :: _ :: _ :: _,_=>rfl
end
end Ho
end
section
set_option Elab.async false
set_option linter.all false
set_option maxRecDepth 100000
namespace Ho
open PySem hiding start
open PySem.Spec
open PyProof.Rows hiding St
open L2
noncomputable abbrev sPartI:Stmt:=inClass (top 24) 0
noncomputable abbrev sPutI:Stmt:=inClass (top 25) 0
noncomputable abbrev sWorkI:Stmt:=inClass (top 26) 0
theorem putF_ne {f g:Str} {v x:V} {r:List (Str × V)} (h:¬ g=f):putF f v ((g,x) :: r)=(g,x) :: putF f v r:=if_neg h
theorem putF_eq {f:Str} {v x:V} {r:List (Str × V)}:putF f v ((f,x) :: r)=(f,v) :: r:=if_pos rfl
theorem putF_nil {f:Str} {v:V}:putF f v []=[(f,v)]:=rfl
theorem look_ne {f g:Str} {x:V} {r:List (Str × V)} (h:¬ f=g):List.lookup f ((g,x) :: r)=List.lookup f r:=by
 have hb:(f == g)=false:=beq_eq_false_iff_ne.mpr h;simp only [List.lookup,hb]
theorem look_eq {f:Str} {x:V} {r:List (Str × V)}:List.lookup f ((f,x) :: r)=some x:=by
 have hb:(f == f)=true:=beq_iff_eq.mpr rfl;simp only [List.lookup,hb]
noncomputable abbrev fP (a:Addr) (c:Int) (r:Addr):List (Str × V):=[("sizes",.ref a),("cuts",.int c),("rows",.ref r)]
noncomputable abbrev fU (p w c:Addr):List (Str × V):=[("part",.ref p),("ways",.ref w),("corner",.ref c)]
noncomputable abbrev fW (d:Addr) (l:V) (p c r:Addr):List (Str × V):=[("parts",.ref d),("latest",l),("puts",.ref p),("cells",.ref c),("refusal",.ref r)]
structure TxtP (K:PySem.W.Frag) (mg:Str→Option Value) (CP:Addr):Prop where
 cl:Cls K CP
 sizes:NoAttr K CP "sizes"
 cuts:NoAttr K CP "cuts"
 rows:NoAttr K CP "rows"
 mg:mg "Part" = some (.ref CP)
structure TxtU (K:PySem.W.Frag) (mg:Str→Option Value) (CU:Addr):Prop where
 cl:Cls K CU
 part:NoAttr K CU "part"
 ways:NoAttr K CU "ways"
 corner:NoAttr K CU "corner"
 mg:mg "Put" = some (.ref CU)
structure TxtW (K:PySem.W.Frag) (mg:Str→Option Value) (CW:Addr):Prop where
 cl:Cls K CW
 parts:NoAttr K CW "parts"
 latest:NoAttr K CW "latest"
 puts:NoAttr K CW "puts"
 cells:NoAttr K CW "cells"
 refusal:NoAttr K CW "refusal"
 mg:mg "Work" = some (.ref CW)
noncomputable abbrev vNats (l:List Nat):List V:=l.map fun (n:Nat)=>V.int (n:Int)
section
variable {P:Program} {w:World} {K:PySem.W.Frag} {mg:Str→Option Value} {base:Heap}
theorem scPartI:FnScope ["self","sizes"] ["self","sizes"] (defScope sPartI):=⟨rfl,rfl,rfl,by decide +kernel,rfl,by decide +kernel,by decide +kernel⟩
inductive SpPartI (CP:Addr) (vs:List V) (H:Hp) (Q:VK):Prop
 | mk (p dx a:Addr) (x y z:Nat) (h0:vs=[.ref p,.ref a]) (h1:H p=some (.ins CP dx [])) (h2:H a=some (.lst (vNats [x,y,z]))) (h3:x≤16) (h4:y≤16) (h5:z≤16) (h6:∀ (H':Hp) (r:Addr),H r=none→H' p=some (.ins CP dx (fP a 0 r))→H' r=some (.lst (vNats (List.replicate (y*z) (2 ^ x - 1))))→(∀ b o,H b=some o→b≠p→H' b=some o)→Q .non H'):SpPartI CP vs H Q
noncomputable def spPartI (CP:Addr):Sp:=fun vs H Q _=>SpPartI CP vs H Q
theorem ok_partI {f CP:Addr} {fd:FuncData} (F:Fun K "__init__" "Part.__init__" sPartI f fd) (T:TxtP K mg CP):FnOk P w K mg base CX0 1 f fd ["self","sizes"] (spPartI CP):=by
 refine F.ok scPartI (fun vs H Q E h=>?_) (fun cdv A outer s H vs Q E hr h=>?_)
 · obtain ⟨p,dx,a,x,y,z,rfl,_⟩:=h;rfl
 · obtain ⟨p,dx,a,x,y,z,rfl,hp,ha,hx,hy,hz,k⟩:=h
   refine ⟨_,pss_cons (ps_fld (pv 0) (pv 1) rfl) (pss_cons (ps_fld (pv 0) pe_int rfl) (pss_one (ps_fld (pv 0) (pe_op op_rep (pe_lst (pa_cons (pe_op op_sub (pe_op op_shl pe_int (pe_ix ix_list (pv 1) pe_int (fun _ _=>rfl))) pe_int) pa_nil))
     (pe_op op_mul (pe_ix ix_list (pv 1) pe_int (fun _ _=>rfl)) (pe_ix ix_list (pv 1) pe_int (fun _ _=>rfl)))) rfl))),?_⟩
   push_cast [hp,T.cl,T.sizes,T.cuts,T.rows]
   have e1:putF (Str.ofString "cuts") (V.int 0) (putF (Str.ofString "sizes") (V.ref a) [])=([("sizes",V.ref a),("cuts",V.int 0)]:List (Str × V)):=by
     rw [putF_nil,putF_ne (by decide +kernel),putF_nil]
   rw [e1];have hap:a≠p:=ne_of ha hp (by intro z; cases z);have hs1:∀ o,SqL K (upd H p o) a (vNats [x,y,z]):=fun o=>SqL.of (by rw [upd_ne hap]; exact ha);have hyz:(y:Int)*(z:Int)=((y*z:Nat):Int):=by simp
   have hle:y*z≤16*16:=Nat.mul_le_mul hy hz;refine ⟨by decide,(by show (1:Nat) < 1000; decide),_,hs1 _,.int x,rfl,x,rfl,⟨by omega,by omega,by decide⟩,by decide,fun q hq=>?_⟩;have hsl:sizeLine=16777216:=sizeLine_eq;refine ⟨_,sqL_new hq (hs1 _),.int y,rfl,_,sqL_new hq (hs1 _),.int z,rfl,y,rfl,z,rfl,.inl ⟨by omega,by omega⟩,by rw [hyz]; omega,by rw [hyz]; omega,by rw [hyz]; omega,fun r hr2=>?_⟩;have hqp:q≠p:=fun e=>by rw [e,upd_same] at hq; cases hq
   have hrp:r≠p:=fun e=>by rw [e,upd_ne (Ne.symm hqp),upd_same] at hr2; cases hr2
   have hrq:r≠q:=fun e=>by rw [e,upd_same] at hr2; cases hr2
   have hq0:H q=none:=by rw [upd_ne hqp] at hq; exact hq
   have hr0:H r=none:=by rw [upd_ne hrq,upd_ne hrp] at hr2; exact hr2
   rw [upd_ne (Ne.symm hrp),upd_ne (Ne.symm hqp),upd_same];refine ⟨CP,dx,_,rfl,T.cl,T.rows,(by show (2:Nat) < 1000; decide),?_⟩
   have e2:putF (Str.ofString "rows") (V.ref r) [("sizes",V.ref a),("cuts",V.int 0)]=fP a 0 r:=by
     rw [putF_ne (by decide +kernel),putF_ne (by decide +kernel),putF_nil]
   rw [e2];refine k _ r hr0 upd_same ?_ fun b o e hb=>?_
   · rw [upd_ne hrp,upd_same,hyz,Int.toNat_natCast]
     have e3:((1:Int)*2 ^ ((x:Int).toNat) - 1)=((2 ^ x - 1:Nat):Int):=by
       rw [Int.toNat_natCast,Int.one_mul];have:0 < 2 ^ x:=Nat.two_pow_pos x;rw [Int.natCast_sub this];simp
     rw [e3]
     have z2:∀ (n:Nat) (v:V),(List.replicate n [v]).flatten=List.replicate n v:=fun n v=>by
       induction n with
       | zero=>rfl
       | succ n ih=>rw [List.replicate_succ,List.flatten_cons,ih,List.replicate_succ]; rfl
     rw [z2,vNats,List.map_replicate]
   · rw [upd_ne hb,upd_ne (ne_of_none e hr0),upd_ne (ne_of_none e hq0),upd_ne hb];exact e
theorem scPutI:FnScope ["self","part","ways","corner"] ["self","part","ways","corner"] (defScope sPutI):=⟨rfl,rfl,rfl,by decide +kernel,rfl,by decide +kernel,by decide +kernel⟩
inductive SpPutI (CU:Addr) (vs:List V) (H:Hp) (Q:VK):Prop
 | mk (p dx a b c:Addr) (h0:vs=[.ref p,.ref a,.ref b,.ref c]) (h1:H p=some (.ins CU dx [])) (h2:Q .non (upd H p (.ins CU dx (fU a b c)))):SpPutI CU vs H Q
noncomputable def spPutI (CU:Addr):Sp:=fun vs H Q _=>SpPutI CU vs H Q
theorem ok_putI {f CU:Addr} {fd:FuncData} (F:Fun K "__init__" "Put.__init__" sPutI f fd) (T:TxtU K mg CU):FnOk P w K mg base CX0 1 f fd ["self","part","ways","corner"] (spPutI CU):=by
 refine F.ok scPutI (fun vs H Q E h=>?_) (fun cdv A outer s H vs Q E hr h=>?_)
 · obtain ⟨p,dx,a,b,c,rfl,_⟩:=h;rfl
 · obtain ⟨p,dx,a,b,c,rfl,hp,k⟩:=h;refine ⟨_,pss_cons (ps_fld (pv 0) (pv 1) rfl) (pss_cons (ps_fld (pv 0) (pv 2) rfl) (pss_one (ps_fld (pv 0) (pv 3) rfl))),?_⟩
   have e1:putF (Str.ofString "ways") (V.ref b) (putF (Str.ofString "part") (V.ref a) [])=([("part",V.ref a),("ways",V.ref b)]:List (Str × V)):=by
     rw [putF_nil,putF_ne (by decide +kernel),putF_nil]
   have e2:putF (Str.ofString "corner") (V.ref c) [("part",V.ref a),("ways",V.ref b)]=fU a b c:=by
     rw [putF_ne (by decide +kernel),putF_ne (by decide +kernel),putF_nil]
   refine rSetV rfl rfl hp T.cl T.part (by decide) (rSetV rfl rfl upd_same T.cl T.ways (by show (1:Nat) < 1000; decide) ?_);rw [e1,upd_upd];refine rSetV rfl rfl upd_same T.cl T.corner (by show (2:Nat) < 1000; decide) ?_;rw [e2,upd_upd];exact k
theorem scWorkI:FnScope ["self"] ["self"] (defScope sWorkI):=⟨rfl,rfl,rfl,by decide +kernel,rfl,by decide +kernel,by decide +kernel⟩
inductive SpWorkI (CW:Addr) (vs:List V) (H:Hp) (Q:VK):Prop
 | mk (p dx:Addr) (h0:vs=[.ref p]) (h1:H p=some (.ins CW dx [])) (h2:∀ (H':Hp) (a b c d:Addr),[p,a,b,c,d].Nodup→H a=none→H b=none→H c=none→H d=none→H' p=some (.ins CW dx (fW a .non b c d))→H' a=some (.dK [])→H' b=some (.lst [])→H' c=some (.lst [])→H' d=some (.lst [])→(∀ q o,H q=some o→q≠p→H' q=some o)→Q .non H'):SpWorkI CW vs H Q
noncomputable def spWorkI (CW:Addr):Sp:=fun vs H Q _=>SpWorkI CW vs H Q
theorem ok_workI {f CW:Addr} {fd:FuncData} (F:Fun K "__init__" "Work.__init__" sWorkI f fd) (T:TxtW K mg CW):FnOk P w K mg base CX0 1 f fd ["self"] (spWorkI CW):=by
 refine F.ok scWorkI (fun vs H Q E h=>?_) (fun cdv A outer s H vs Q E hr h=>?_)
 · obtain ⟨p,dx,rfl,_⟩:=h;rfl
 · obtain ⟨p,dx,rfl,hp,k⟩:=h;refine ⟨_,pss_cons (ps_fld (pv 0) pe_dnewK rfl) (pss_cons (ps_fld (pv 0) pe_non rfl) (pss_cons (ps_fld (pv 0) (pe_lst pa_nil) rfl) (pss_cons (ps_fld (pv 0) (pe_lst pa_nil) rfl) (pss_one (ps_fld (pv 0) (pe_lst pa_nil) rfl))))),?_⟩;intro a ha;have hap:a≠p:=fun e=>by rw [e,hp] at ha; cases ha
   have e1:putF (Str.ofString "latest") V.non (putF (Str.ofString "parts") (V.ref a) [])=([("parts",V.ref a),("latest",V.non)]:List (Str × V)):=by
     rw [putF_nil,putF_ne (by decide +kernel),putF_nil]
   refine rSet (N:=fun _=>_) rfl (by rw [upd_ne (Ne.symm hap)]; exact hp) T.cl T.parts (by decide) (rSetC rfl upd_same T.cl T.latest (by show (1:Nat) < 1000; decide) ?_);rw [upd_upd,e1];refine rSetN rfl upd_same T.cl T.puts (by show (2:Nat) < 1000; decide) fun b hb=>?_;have hbp:b≠p:=fun e=>by rw [e,upd_same] at hb; cases hb
   have hba:b≠a:=fun e=>by rw [e,upd_ne hap,upd_same] at hb; cases hb
   have hb0:H b=none:=by rw [upd_ne hbp,upd_ne hba] at hb; exact hb
   have e2:putF (Str.ofString "puts") (V.ref b) [("parts",V.ref a),("latest",V.non)]=([("parts",V.ref a),("latest",V.non),("puts",V.ref b)]:List (Str × V)):=by
     rw [putF_ne (by decide +kernel),putF_ne (by decide +kernel),putF_nil]
   rw [e2];refine rSetN rfl upd_same T.cl T.cells (by show (3:Nat) < 1000; decide) fun c hc=>?_;have hcp:c≠p:=fun e=>by rw [e,upd_same] at hc; cases hc
   have hcb:c≠b:=fun e=>by rw [e,upd_ne hbp,upd_same] at hc; cases hc
   have hca:c≠a:=fun e=>by rw [e,upd_ne hap,upd_ne (Ne.symm hba),upd_ne hap,upd_same] at hc; cases hc
   have hc0:H c=none:=by rw [upd_ne hcp,upd_ne hcb,upd_ne hcp,upd_ne hca] at hc; exact hc
   have e3:putF (Str.ofString "cells") (V.ref c) [("parts",V.ref a),("latest",V.non),("puts",V.ref b)]=([("parts",V.ref a),("latest",V.non),("puts",V.ref b),("cells",V.ref c)]:List (Str × V)):=by
     rw [putF_ne (by decide +kernel),putF_ne (by decide +kernel),putF_ne (by decide +kernel),putF_nil]
   rw [e3];refine rSetN rfl upd_same T.cl T.refusal (by show (4:Nat) < 1000; decide) fun d hd=>?_;have hdp:d≠p:=fun e=>by rw [e,upd_same] at hd; cases hd
   have hdc:d≠c:=fun e=>by rw [e,upd_ne hcp,upd_same] at hd; cases hd
   have hdb:d≠b:=fun e=>by rw [e,upd_ne hbp,upd_ne (Ne.symm hcb),upd_ne hbp,upd_same] at hd; cases hd
   have hda:d≠a:=fun e=>by rw [e,upd_ne hap,upd_ne (Ne.symm hca),upd_ne hap,upd_ne (Ne.symm hba),upd_ne hap,upd_same] at hd; cases hd
   have hd0:H d=none:=by rw [upd_ne hdp,upd_ne hdc,upd_ne hdp,upd_ne hdb,upd_ne hdp,upd_ne hda] at hd; exact hd
   have e4:putF (Str.ofString "refusal") (V.ref d) [("parts",V.ref a),("latest",V.non),("puts",V.ref b),("cells",V.ref c)]=fW a .non b c d:=by
     rw [putF_ne (by decide +kernel),putF_ne (by decide +kernel),putF_ne (by decide +kernel),putF_ne (by decide +kernel),putF_nil]
   rw [e4];refine k _ a b c d ?_ ha hb0 hc0 hd0 upd_same ?_ ?_ ?_ ?_ fun q o e hq=>?_
   · simp [Ne.symm hap,Ne.symm hbp,Ne.symm hcp,Ne.symm hdp,Ne.symm hba,Ne.symm hca,Ne.symm hda,Ne.symm hcb,Ne.symm hdb,Ne.symm hdc]
   · rw [upd_ne hap,upd_ne (Ne.symm hda),upd_ne hap,upd_ne (Ne.symm hca),upd_ne hap,upd_ne (Ne.symm hba),upd_ne hap,upd_same]
   · rw [upd_ne hbp,upd_ne (Ne.symm hdb),upd_ne hbp,upd_ne (Ne.symm hcb),upd_ne hbp,upd_same]
   · rw [upd_ne hcp,upd_ne (Ne.symm hdc),upd_ne hcp,upd_same]
   · rw [upd_ne hdp,upd_same]
   · rw [upd_ne hq,upd_ne (ne_of_none e hd0),upd_ne hq,upd_ne (ne_of_none e hc0),upd_ne hq,upd_ne (ne_of_none e hb0),upd_ne hq,upd_ne (ne_of_none e ha)];exact e
end
end Ho
end
section
set_option Elab.async false
set_option linter.all false
set_option maxRecDepth 100000
namespace Ho
open PySem hiding start
open PySem.Spec
open PyProof.Rows hiding St
open L2
inductive Role where
 | work | dict | puts | cells | refu | part (k:Nat) | sizes (k:Nat) | rows (k:Nat) | put (k:Nat) | ways (k:Nat) | cor (k:Nat)
 deriving DecidableEq
noncomputable def used (m:MW):Role→Prop
 | .part k=>k < m.parts.length
 | .sizes k=>k < m.parts.length
 | .rows k=>k < m.parts.length
 | .put k=>k < m.puts.length
 | .ways k=>k < m.puts.length
 | .cor k=>k < m.puts.length
 | _=>True
noncomputable abbrev Ad:=Role→Addr
noncomputable def latestV (m:MW) (ad:Ad):V:=if m.parts.length=0 then .non else .ref (ad (.part (m.parts.length - 1)))
noncomputable abbrev mkS (l:Cs):Str:=⟨l.toArray⟩
noncomputable def dictF (ad:Ad):Nat→List (Cs × MPart)→List (Key × V)
 | _,[]=>[]
 | k,p :: r=>(Sum.inr (mkS p.1),V.ref (ad (.part k))) :: dictF ad (k+1) r
noncomputable def objAt (CW CP CU:Addr) (m:MW) (ad dx:Ad):Role→HO
 | .work=>.ins CW (dx .work) (fW (ad .dict) (latestV m ad) (ad .puts) (ad .cells) (ad .refu))
 | .dict=>.dK (dictF ad 0 m.parts)
 | .puts=>.lst ((List.range m.puts.length).map fun k=>V.ref (ad (.put k)))
 | .cells=>.lst []
 | .refu=>.lst []
 | .part k=>.ins CP (dx (.part k)) (fP (ad (.sizes k)) (m.pt k).cuts (ad (.rows k)))
 | .sizes k=>.lst (vNats [(m.pt k).w,(m.pt k).d,(m.pt k).h])
 | .rows k=>.lst (vNats (m.pt k).rows)
 | .put k=>.ins CU (dx (.put k)) (fU (ad (.part (m.pu k).part)) (ad (.ways k)) (ad (.cor k)))
 | .ways k=>.lst (vInts (m.pu k).ways)
 | .cor k=>.lst (vInts (m.pu k).cor)
structure WAt (CW CP CU:Addr) (H:Hp) (m:MW) (ad dx:Ad) (rl:Addr→Role):Prop where
 obj:∀ r,used m r→H (ad r)=some (objAt CW CP CU m ad dx r)
 lab:∀ r,used m r→rl (ad r)=r
structure Go (H:Hp) (m:MW) (ad:Ad) (H':Hp) (m':MW) (ad':Ad):Prop where
 keep:∀ b o,H b=some o→(∀ r,used m r→b≠ad r)→H' b=some o
 old:∀ r,used m r→used m' r∧ad' r=ad r
 new:∀ r,used m' r→used m r∨H (ad' r)=none
theorem Go.same {H H':Hp} {m:MW} {ad:Ad} (s:Same H H'):Go H m ad H' m ad:=⟨fun b o e _=>s b o e,fun r h=>⟨h,rfl⟩,fun r h=>.inl h⟩
section
variable {CW CP CU:Addr} {H H' H1:Hp} {m m' m1:MW} {ad dx ad' dx' ad1:Ad} {rl rl':Addr→Role}
theorem WAt.same (W:WAt CW CP CU H m ad dx rl) (s:Same H H'):WAt CW CP CU H' m ad dx rl:=⟨fun r h=>s _ _ (W.obj r h),W.lab⟩
theorem WAt.ne (W:WAt CW CP CU H m ad dx rl) {r q:Role} (hr:used m r) (hq:used m q) (h:r≠q):ad r≠ad q:=fun e=>h (by rw [← W.lab r hr,e,W.lab q hq])
theorem WAt.ne_new (W:WAt CW CP CU H m ad dx rl) {r:Role} {x:Addr} (hr:used m r) (h:H x=none):ad r≠x:=ne_of_none (W.obj r hr) h
theorem Go.trans {dx1:Ad} {rl1:Addr→Role} (W:WAt CW CP CU H1 m1 ad1 dx1 rl1) (a:Go H m ad H1 m1 ad1) (b:Go H1 m1 ad1 H' m' ad'):Go H m ad H' m' ad' where
 keep:=fun x o e h=>b.keep x o (a.keep x o e h) fun r hr=>by
   rcases a.new r hr with h2 | h2
   · rw [(a.old r h2).2];exact h r h2
   · exact ne_of_none e h2
 old:=fun r h=>⟨(b.old r (a.old r h).1).1,by rw [(b.old r (a.old r h).1).2,(a.old r h).2]⟩
 new:=fun r h=>by
   rcases b.new r h with h2 | h2
   · rcases a.new r h2 with h3 | h3
     · exact .inl h3
     · rw [(b.old r h2).2];exact .inr h3
   · by_cases hr:used m r
     · exact .inl hr
     · refine .inr ?_
       cases q:H (ad' r) with
       | none=>rfl
       | some o =>
         by_cases hc:∀ r',used m r'→ad' r≠ad r'
         · rw [a.keep _ _ q hc] at h2;cases h2
         · obtain ⟨r',h'⟩:=Classical.not_forall.mp hc;obtain ⟨u1,u2⟩:=Classical.not_imp.mp h';have u2:=Classical.not_not.mp u2;rw [u2,← (a.old r' u1).2,W.obj r' (a.old r' u1).1] at h2;cases h2
theorem WAt.set (W:WAt CW CP CU H m ad dx rl) (r0:Role) (h0:used m r0) (hu:∀ r,used m' r↔used m r) (he:∀ r,used m r→r≠r0→objAt CW CP CU m' ad dx r=objAt CW CP CU m ad dx r):WAt CW CP CU (upd H (ad r0) (objAt CW CP CU m' ad dx r0)) m' ad dx rl:=by
 refine ⟨fun r h=>?_,fun r h=>W.lab r ((hu r).mp h)⟩;have h:=(hu r).mp h;by_cases hr:r=r0
 · subst hr;exact upd_same
 · rw [upd_ne (W.ne h h0 hr),he r h hr];exact W.obj r h
theorem Go.set (W:WAt CW CP CU H m ad dx rl) (r0:Role) (h0:used m r0) (hu:∀ r,used m' r↔used m r) {o:HO}:Go H m ad (upd H (ad r0) o) m' ad :=
 ⟨fun b o e h=>by rw [upd_ne (h r0 h0)]; exact e,fun r h=>⟨(hu r).mpr h,rfl⟩,fun r h=>.inl ((hu r).mp h)⟩
theorem mkS_inj {a b:Cs} (h:mkS a=mkS b):a=b:=by
 have:=congrArg TL.tl h
 simpa [TL.tl] using this
theorem dictF_len (ad:Ad):∀ (k:Nat) (l:List (Cs × MPart)),(dictF ad k l).length=l.length
 | _,[]=>rfl
 | k,_ :: r=>by rw [dictF,List.length_cons,List.length_cons,dictF_len]
theorem dictF_val (ad:Ad) (n:Cs):∀ (k:Nat) (l:List (Cs × MPart)),valV (dictF ad k l) (Sum.inr (mkS n))=if (l.any fun p=>p.1 == n)=true then some (.ref (ad (.part (k+l.findIdx fun p=>p.1 == n)))) else none
 | _,[]=>rfl
 | k,p :: r=>by
   rw [dictF];by_cases h:p.1=n
   · rw [valV_pos (by rw [h]),List.any_cons,List.findIdx_cons];have hb:(p.1 == n)=true:=beq_iff_eq.mpr h;rw [hb];rfl
   · rw [valV_neg (fun e=>h (mkS_inj (Sum.inr.inj e))),dictF_val ad n (k+1) r,List.any_cons,List.findIdx_cons];have hb:(p.1 == n)=false:=beq_eq_false_iff_ne.mpr h;rw [hb,Bool.false_or,cond_false,Nat.add_assoc,Nat.add_comm 1]
theorem dictF_snoc (ad:Ad) (q:Cs × MPart):∀ (k:Nat) (l:List (Cs × MPart)),dictF ad k (l++[q])=dictF ad k l++[(Sum.inr (mkS q.1),V.ref (ad (.part (k+l.length))))]
 | _,[]=>rfl
 | k,p :: r=>by
   rw [List.cons_append,dictF,dictF,dictF_snoc ad q (k+1) r,List.cons_append,List.length_cons,Nat.add_assoc,Nat.add_comm 1]
theorem dictF_congr {ad ad':Ad}:∀ (k:Nat) (l:List (Cs × MPart)),(∀ j,k≤j→j < k+l.length→ad (.part j)=ad' (.part j))→dictF ad k l=dictF ad' k l
 | _,[],_=>rfl
 | k,p :: r,h=>by
   rw [dictF,dictF,h k (Nat.le_refl _) (by rw [List.length_cons]; omega),dictF_congr (k+1) r fun j h1 h2=>h j (by omega) (by rw [List.length_cons]; omega)]
end
end Ho
end
section
set_option Elab.async false
set_option linter.all false
set_option maxRecDepth 100000
namespace Ho
open PySem hiding start
open PySem.Spec
open PyProof.Rows hiding St
open L2
section
variable {CW CP CU:Addr} {H H' H1:Hp} {m m' m1:MW} {ad dx ad' dx' ad1:Ad} {rl rl':Addr→Role}
noncomputable def MW.add (m:MW) (n:Cs) (p:MPart):MW:={ m with parts:=m.parts++[(n,p)] }
theorem MW.pt_old (m:MW) (n:Cs) (p:MPart) {k:Nat} (h:k < m.parts.length):(m.add n p).pt k=m.pt k:=by
 unfold MW.pt MW.add;rw [List.getD_eq_getElem?_getD,List.getD_eq_getElem?_getD,List.getElem?_append_left h]
theorem MW.pt_new (m:MW) (n:Cs) (p:MPart):(m.add n p).pt m.parts.length=p:=by
 unfold MW.pt MW.add;rw [List.getD_eq_getElem?_getD,List.getElem?_append_right (Nat.le_refl _),Nat.sub_self];rfl
theorem MW.add_len (m:MW) (n:Cs) (p:MPart):(m.add n p).parts.length=m.parts.length+1:=by
 unfold MW.add;rw [List.length_append];rfl
theorem used_add {n:Cs} {p:MPart} {r:Role} (h:used m r):used (m.add n p) r:=by
 cases r with
 | part k=>have h:k < m.parts.length:=h; show k < (m.add n p).parts.length; rw [MW.add_len]; omega
 | sizes k=>have h:k < m.parts.length:=h; show k < (m.add n p).parts.length; rw [MW.add_len]; omega
 | rows k=>have h:k < m.parts.length:=h; show k < (m.add n p).parts.length; rw [MW.add_len]; omega
 | _=>exact h
theorem used_add_inv {n:Cs} {p:MPart} {r:Role} (h:used (m.add n p) r):used m r∨r = .part m.parts.length∨r = .sizes m.parts.length∨r = .rows m.parts.length:=by
 cases r with
 | part k =>
   have h:k < (m.add n p).parts.length:=h;rw [MW.add_len] at h;by_cases e:k=m.parts.length
   · exact .inr (.inl (by rw [e]))
   · exact .inl (show k < m.parts.length by omega)
 | sizes k =>
   have h:k < (m.add n p).parts.length:=h;rw [MW.add_len] at h;by_cases e:k=m.parts.length
   · exact .inr (.inr (.inl (by rw [e])))
   · exact .inl (show k < m.parts.length by omega)
 | rows k =>
   have h:k < (m.add n p).parts.length:=h;rw [MW.add_len] at h;by_cases e:k=m.parts.length
   · exact .inr (.inr (.inr (by rw [e])))
   · exact .inl (show k < m.parts.length by omega)
 | _=>exact .inl h
theorem WAt.newPart (W:WAt CW CP CU H m ad dx rl) (Wf:m.Wf) (n:Cs) (p:MPart) {x sz rw dx0:Addr} (hx:H x=none) (hs:H sz=none) (hr:H rw=none) (n1:x≠sz) (n2:x≠rw) (n3:sz≠rw)
   (h1:H' x=some (.ins CP dx0 (fP sz p.cuts rw))) (h2:H' sz=some (.lst (vNats [p.w,p.d,p.h]))) (h3:H' rw=some (.lst (vNats p.rows)))
   (hw:H' (ad .work)=some (.ins CW (dx .work) (fW (ad .dict) (.ref x) (ad .puts) (ad .cells) (ad .refu))))
   (hd:H' (ad .dict)=some (.dK (dictF ad 0 m.parts++[(Sum.inr (mkS n),.ref x)])))
   (hk:∀ b o,H b=some o→b≠ad .work→b≠ad .dict→H' b=some o) :
   ∃ ad' dx' rl',WAt CW CP CU H' (m.add n p) ad' dx' rl'∧Go H m ad H' (m.add n p) ad':=by
 have hu:∀ {r:Role},used m r→r≠.part m.parts.length∧r≠.sizes m.parts.length∧r≠.rows m.parts.length:=fun {r} h=>by
   refine ⟨?_,?_,?_⟩ <;> rintro rfl <;> exact Nat.lt_irrefl _ (show m.parts.length < m.parts.length from h)
 let ad':Ad:=fun r=>if r = .part m.parts.length then x else if r = .sizes m.parts.length then sz else if r = .rows m.parts.length then rw else ad r
 let dx':Ad:=fun r=>if r = .part m.parts.length then dx0 else dx r
 let rl':Addr→Role:=fun b=>if b=x then .part m.parts.length else if b=sz then .sizes m.parts.length else if b=rw then .rows m.parts.length else rl b
 have eo:∀ {r:Role},used m r→ad' r=ad r:=fun {r} h=>by
   obtain ⟨a,b,c⟩:=hu h;show (if _ then _ else _)=_;rw [if_neg a,if_neg b,if_neg c]
 have ed:∀ {r:Role},used m r→dx' r=dx r:=fun {r} h=>by
   show (if _ then _ else _)=_;rw [if_neg (hu h).1]
 have e1:ad' (.part m.parts.length)=x:=if_pos rfl;have e2:ad' (.sizes m.parts.length)=sz:=(if_neg (by simp)).trans (if_pos rfl);have e3:ad' (.rows m.parts.length)=rw:=(if_neg (by simp)).trans ((if_neg (by simp)).trans (if_pos rfl))
 have hold:∀ r,used m r→H' (ad r)=some (objAt CW CP CU (m.add n p) ad' dx' r):=fun r h=>by
   have hnx:=W.ne_new h hx;by_cases q1:r = .work
   · subst q1;rw [hw]
     have el:latestV (m.add n p) ad' = .ref x:=by
       unfold latestV;rw [MW.add_len,if_neg (by omega),Nat.add_sub_cancel,e1]
     show _=some (HO.ins CW (dx' .work) (fW (ad' .dict) (latestV (m.add n p) ad') (ad' .puts) (ad' .cells) (ad' .refu)));rw [el,ed (r:=.work) trivial,eo (r:=.dict) trivial,eo (r:=.puts) trivial,eo (r:=.cells) trivial,eo (r:=.refu) trivial]
   by_cases q2:r = .dict
   · subst q2;rw [hd];show _=some (HO.dK (dictF ad' 0 (m.parts++[(n,p)])));rw [dictF_snoc,Nat.zero_add,e1,dictF_congr (ad:=ad') (ad':=ad) 0 m.parts fun j _ h2=>eo (r:=.part j) (by show j < m.parts.length; omega)]
   rw [hk _ _ (W.obj r h) (W.ne h trivial q1) (W.ne h trivial q2)];congr 1
   cases r with
   | work=>exact absurd rfl q1
   | dict=>exact absurd rfl q2
   | puts =>
     show HO.lst _=HO.lst _
     congr 1
   | cells=>rfl
   | refu=>rfl
   | part k =>
     have hk:k < m.parts.length:=h;show HO.ins _ _ _=HO.ins _ _ _
     rw [ed h,eo (r:=.sizes k) hk,eo (r:=.rows k) hk,MW.pt_old m n p hk]
   | sizes k =>
     have hk:k < m.parts.length:=h;show HO.lst _=HO.lst _
     rw [MW.pt_old m n p hk]
   | rows k =>
     have hk:k < m.parts.length:=h;show HO.lst _=HO.lst _
     rw [MW.pt_old m n p hk]
   | put k =>
     have hk:k < m.puts.length:=h;show HO.ins _ _ _=HO.ins _ _ _;rw [ed h,eo (r:=.ways k) hk,eo (r:=.cor k) hk];show HO.ins _ _ (fU (ad (.part (m.pu k).part)) _ _)=HO.ins _ _ (fU (ad' (.part (m.pu k).part)) _ _)
     rw [eo (r:=.part (m.pu k).part) (Wf.pu hk).part]
   | ways k=>rfl
   | cor k=>rfl
 refine ⟨ad',dx',rl',⟨fun r h=>?_,fun r h=>?_⟩,⟨fun b o e h=>hk b o e (h .work trivial) (h .dict trivial),fun r h=>⟨used_add h,eo h⟩,fun r h=>?_⟩⟩
 · rcases used_add_inv h with h | rfl | rfl | rfl
   · rw [eo h];exact hold r h
   · rw [e1,h1];show _=some (HO.ins CP (dx' (.part m.parts.length)) (fP (ad' (.sizes m.parts.length)) ((m.add n p).pt m.parts.length).cuts (ad' (.rows m.parts.length))));rw [e2,e3,MW.pt_new,show dx' (.part m.parts.length)=dx0 from if_pos rfl]
   · rw [e2,h2];show _=some (HO.lst (vNats [((m.add n p).pt m.parts.length).w,((m.add n p).pt m.parts.length).d,((m.add n p).pt m.parts.length).h]));rw [MW.pt_new]
   · rw [e3,h3];show _=some (HO.lst (vNats ((m.add n p).pt m.parts.length).rows));rw [MW.pt_new]
 · rcases used_add_inv h with h | rfl | rfl | rfl
   · rw [eo h];show (if _ then _ else _)=_;rw [if_neg (W.ne_new h hx),if_neg (W.ne_new h hs),if_neg (W.ne_new h hr)];exact W.lab r h
   · rw [e1];exact if_pos rfl
   · rw [e2];exact (if_neg (Ne.symm n1)).trans (if_pos rfl)
   · rw [e3];exact (if_neg (Ne.symm n2)).trans ((if_neg (Ne.symm n3)).trans (if_pos rfl))
 · rcases used_add_inv h with h | rfl | rfl | rfl
   · exact .inl h
   · exact .inr (by rw [e1]; exact hx)
   · exact .inr (by rw [e2]; exact hs)
   · exact .inr (by rw [e3]; exact hr)
end
end Ho
end
section
set_option Elab.async false
set_option linter.all false
set_option maxRecDepth 100000
namespace Ho
open PySem hiding start
open PySem.Spec
open PyProof.Rows hiding St
open L2
section
variable {CW CP CU:Addr} {H H' H1:Hp} {m m' m1:MW} {ad dx ad' dx' ad1:Ad} {rl rl':Addr→Role}
noncomputable def MW.setLast (m:MW) (p:Cs × MPart):MW:={ m with parts:=m.parts.dropLast++[p] }
theorem last_parts {p:Cs × MPart} (h:m.parts.getLast? = some p):m.parts=m.parts.dropLast++[p]:=by
 obtain ⟨ys,e⟩:=List.getLast?_eq_some_iff.mp h;rw [e,List.dropLast_concat]
theorem last_len {p:Cs × MPart} (h:m.parts.getLast? = some p):m.parts.length=m.parts.dropLast.length+1:=by
 have:=congrArg List.length (last_parts h);rw [List.length_append] at this;exact this
theorem pt_last {p:Cs × MPart} (h:m.parts.getLast? = some p):m.pt (m.parts.length - 1)=p.2:=by
 unfold MW.pt;have e:=last_len h;rw [e,Nat.add_sub_cancel,last_parts h,List.dropLast_concat,List.getD_eq_getElem?_getD,List.getElem?_append_right (Nat.le_refl _),Nat.sub_self];rfl
theorem setLast_len {p q:Cs × MPart} (h:m.parts.getLast? = some p):(m.setLast q).parts.length=m.parts.length:=by
 rw [last_len h];unfold MW.setLast;rw [List.length_append];rfl
theorem setLast_pt {p q:Cs × MPart} (h:m.parts.getLast? = some p) {k:Nat} (hk:k < m.parts.length) (hn:k≠m.parts.length - 1):(m.setLast q).pt k=m.pt k:=by
 have e:=last_len h;unfold MW.pt;have e2:=last_parts h;rw [show m.parts.getD k ([],noPart)=(m.parts.dropLast++[p]).getD k ([],noPart) by rw [← e2]];show ((m.parts.dropLast++[q]).getD k ([],noPart)).2=_;rw [List.getD_eq_getElem?_getD,List.getD_eq_getElem?_getD,List.getElem?_append_left (by omega),List.getElem?_append_left (by omega)]
theorem setLast_last {p q:Cs × MPart} (h:m.parts.getLast? = some p):(m.setLast q).pt (m.parts.length - 1)=q.2:=by
 have e:=last_len h;rw [e,Nat.add_sub_cancel];show ((m.parts.dropLast++[q]).getD m.parts.dropLast.length ([],noPart)).2=_;rw [List.getD_eq_getElem?_getD,List.getElem?_append_right (Nat.le_refl _),Nat.sub_self];rfl
theorem dictF_names {ad:Ad}:∀ (k:Nat) (l l':List (Cs × MPart)),l.map (·.1)=l'.map (·.1)→dictF ad k l=dictF ad k l'
 | _,[],[],_=>rfl
 | _,[],_ :: _,h=>by simp at h
 | _,_ :: _,[],h=>by simp at h
 | k,p :: r,q :: r',h=>by
   rw [List.map_cons,List.map_cons] at h;injection h with h1 h2;rw [dictF,dictF,h1,dictF_names (k+1) r r' h2]
theorem setLast_used {p q:Cs × MPart} (h:m.parts.getLast? = some p) (r:Role):used (m.setLast q) r↔used m r:=by
 have e:=setLast_len (q:=q) h
 cases r with
 | part k=>show k < (m.setLast q).parts.length↔_; rw [e]; exact Iff.rfl
 | sizes k=>show k < (m.setLast q).parts.length↔_; rw [e]; exact Iff.rfl
 | rows k=>show k < (m.setLast q).parts.length↔_; rw [e]; exact Iff.rfl
 | _=>exact Iff.rfl
theorem WAt.cutLast (W:WAt CW CP CU H m ad dx rl) {p:Cs × MPart} (hp:m.parts.getLast? = some p) (q:MPart) (hw:q.w=p.2.w) (hd:q.d=p.2.d) (hh:q.h=p.2.h) :
   WAt CW CP CU (upd (upd H (ad (.part (m.parts.length - 1))) (.ins CP (dx (.part (m.parts.length - 1))) (fP (ad (.sizes (m.parts.length - 1))) q.cuts (ad (.rows (m.parts.length - 1)))))) (ad (.rows (m.parts.length - 1))) (.lst (vNats q.rows))) (m.setLast (p.1,q)) ad dx rl:=by
 have hl:=last_len hp;have hL:m.parts.length - 1 < m.parts.length:=by omega
 have e1:=setLast_last (q:=(p.1,q)) hp;have e2:=setLast_len (q:=(p.1,q)) hp;refine ⟨fun r h=>?_,fun r h=>W.lab r ((setLast_used hp r).mp h)⟩;have h:=(setLast_used hp r).mp h;by_cases q1:r = .rows (m.parts.length - 1)
 · subst q1;rw [upd_same];show _=some (HO.lst (vNats ((m.setLast (p.1,q)).pt (m.parts.length - 1)).rows));rw [e1]
 rw [upd_ne (W.ne (q:=.rows (m.parts.length - 1)) h hL q1)];by_cases q2:r = .part (m.parts.length - 1)
 · subst q2;rw [upd_same];show _=some (HO.ins CP _ (fP _ ((m.setLast (p.1,q)).pt (m.parts.length - 1)).cuts _));rw [e1]
 rw [upd_ne (W.ne (q:=.part (m.parts.length - 1)) h hL q2),W.obj r h];congr 1
 cases r with
 | work =>
   show HO.ins _ _ (fW _ (latestV m ad) _ _ _)=HO.ins _ _ (fW _ (latestV (m.setLast (p.1,q)) ad) _ _ _);unfold latestV
   rw [e2]
 | dict =>
   show HO.dK _=HO.dK _;congr 1;refine dictF_names 0 _ _ ?_
   conv=>lhs; rw [last_parts hp]
   show (m.parts.dropLast++[p]).map (·.1)=(m.parts.dropLast++[(p.1,q)]).map (·.1);rw [List.map_append,List.map_append]
   rfl
 | part k =>
   have hk:k < m.parts.length:=h;have hn:k≠m.parts.length - 1:=fun e=>q2 (by rw [e]);show HO.ins _ _ (fP _ _ _)=HO.ins _ _ (fP _ _ _)
   rw [setLast_pt hp hk hn]
 | sizes k =>
   have hk:k < m.parts.length:=h;show HO.lst _=HO.lst _;by_cases hn:k=m.parts.length - 1
   · subst hn;rw [e1,pt_last hp,hw,hd,hh]
   · rw [setLast_pt hp hk hn]
 | rows k =>
   have hk:k < m.parts.length:=h;have hn:k≠m.parts.length - 1:=fun e=>q1 (by rw [e]);show HO.lst _=HO.lst _
   rw [setLast_pt hp hk hn]
 | _=>rfl
end
end Ho
end
section
set_option Elab.async false
set_option linter.all false
set_option maxRecDepth 100000
namespace Ho
open PySem hiding start
open PySem.Spec
open PyProof.Rows hiding St
open L2
section
variable {CW CP CU:Addr} {H H' H1:Hp} {m m' m1:MW} {ad dx ad' dx' ad1:Ad} {rl rl':Addr→Role}
noncomputable def MW.addPut (m:MW) (u:MPut):MW:={ m with puts:=m.puts++[u] }
theorem MW.pu_old (m:MW) (u:MPut) {k:Nat} (h:k < m.puts.length):(m.addPut u).pu k=m.pu k:=by
 unfold MW.pu MW.addPut;rw [List.getD_eq_getElem?_getD,List.getD_eq_getElem?_getD,List.getElem?_append_left h]
theorem MW.pu_new (m:MW) (u:MPut):(m.addPut u).pu m.puts.length=u:=by
 unfold MW.pu MW.addPut;rw [List.getD_eq_getElem?_getD,List.getElem?_append_right (Nat.le_refl _),Nat.sub_self];rfl
theorem MW.addPut_len (m:MW) (u:MPut):(m.addPut u).puts.length=m.puts.length+1:=by
 unfold MW.addPut;rw [List.length_append];rfl
theorem used_addPut {u:MPut} {r:Role} (h:used m r):used (m.addPut u) r:=by
 cases r with
 | put k=>have h:k < m.puts.length:=h; show k < (m.addPut u).puts.length; rw [MW.addPut_len]; omega
 | ways k=>have h:k < m.puts.length:=h; show k < (m.addPut u).puts.length; rw [MW.addPut_len]; omega
 | cor k=>have h:k < m.puts.length:=h; show k < (m.addPut u).puts.length; rw [MW.addPut_len]; omega
 | _=>exact h
theorem used_addPut_inv {u:MPut} {r:Role} (h:used (m.addPut u) r):used m r∨r = .put m.puts.length∨r = .ways m.puts.length∨r = .cor m.puts.length:=by
 cases r with
 | put k =>
   have h:k < (m.addPut u).puts.length:=h;rw [MW.addPut_len] at h;by_cases e:k=m.puts.length
   · exact .inr (.inl (by rw [e]))
   · exact .inl (show k < m.puts.length by omega)
 | ways k =>
   have h:k < (m.addPut u).puts.length:=h;rw [MW.addPut_len] at h;by_cases e:k=m.puts.length
   · exact .inr (.inr (.inl (by rw [e])))
   · exact .inl (show k < m.puts.length by omega)
 | cor k =>
   have h:k < (m.addPut u).puts.length:=h;rw [MW.addPut_len] at h;by_cases e:k=m.puts.length
   · exact .inr (.inr (.inr (by rw [e])))
   · exact .inl (show k < m.puts.length by omega)
 | _=>exact .inl h
theorem WAt.newPut (W:WAt CW CP CU H m ad dx rl) (u:MPut) (hup:u.part < m.parts.length) {x wy co dx0:Addr} (hx:H x=none) (hs:H wy=none) (hr:H co=none) (n1:x≠wy) (n2:x≠co) (n3:wy≠co)
   (h1:H' x=some (.ins CU dx0 (fU (ad (.part u.part)) wy co))) (h2:H' wy=some (.lst (vInts u.ways))) (h3:H' co=some (.lst (vInts u.cor)))
   (hp:H' (ad .puts)=some (.lst (((List.range m.puts.length).map fun k=>V.ref (ad (.put k)))++[V.ref x])))
   (hk:∀ b o,H b=some o→b≠ad .puts→H' b=some o) :
   ∃ ad' dx' rl',WAt CW CP CU H' (m.addPut u) ad' dx' rl'∧Go H m ad H' (m.addPut u) ad':=by
 have hu:∀ {r:Role},used m r→r≠.put m.puts.length∧r≠.ways m.puts.length∧r≠.cor m.puts.length:=fun {r} h=>by
   refine ⟨?_,?_,?_⟩ <;> rintro rfl <;> exact Nat.lt_irrefl _ (show m.puts.length < m.puts.length from h)
 let ad':Ad:=fun r=>if r = .put m.puts.length then x else if r = .ways m.puts.length then wy else if r = .cor m.puts.length then co else ad r
 let dx':Ad:=fun r=>if r = .put m.puts.length then dx0 else dx r
 let rl':Addr→Role:=fun b=>if b=x then .put m.puts.length else if b=wy then .ways m.puts.length else if b=co then .cor m.puts.length else rl b
 have eo:∀ {r:Role},used m r→ad' r=ad r:=fun {r} h=>by
   obtain ⟨a,b,c⟩:=hu h;show (if _ then _ else _)=_;rw [if_neg a,if_neg b,if_neg c]
 have ed:∀ {r:Role},used m r→dx' r=dx r:=fun {r} h=>by
   show (if _ then _ else _)=_;rw [if_neg (hu h).1]
 have e1:ad' (.put m.puts.length)=x:=if_pos rfl;have e2:ad' (.ways m.puts.length)=wy:=(if_neg (by simp)).trans (if_pos rfl);have e3:ad' (.cor m.puts.length)=co:=(if_neg (by simp)).trans ((if_neg (by simp)).trans (if_pos rfl));have ep:∀ k,ad' (.part k)=ad (.part k):=fun k=>(if_neg (by simp)).trans ((if_neg (by simp)).trans (if_neg (by simp)))
 have hold:∀ r,used m r→H' (ad r)=some (objAt CW CP CU (m.addPut u) ad' dx' r):=fun r h=>by
   by_cases q2:r = .puts
   · subst q2;rw [hp];show _=some (HO.lst ((List.range (m.addPut u).puts.length).map fun k=>V.ref (ad' (.put k))));rw [MW.addPut_len,List.range_succ,List.map_append];congr 3
     · refine List.map_congr_left fun k hk=>?_;rw [eo (r:=.put k) (List.mem_range.mp hk)]
     · show [V.ref x]=[V.ref (ad' (.put m.puts.length))];rw [e1]
   rw [hk _ _ (W.obj r h) (W.ne h trivial q2)];congr 1
   cases r with
   | puts=>exact absurd rfl q2
   | work =>
     show HO.ins _ _ (fW _ (latestV m ad) _ _ _)=HO.ins _ _ (fW _ (latestV (m.addPut u) ad') _ _ _)
     have el:latestV (m.addPut u) ad'=latestV m ad:=by
       unfold latestV;rw [ep];rfl
     rw [el,ed (r:=.work) trivial,eo (r:=.dict) trivial,eo (r:=.puts) trivial,eo (r:=.cells) trivial,eo (r:=.refu) trivial]
   | dict =>
     show HO.dK _=HO.dK _;congr 1
     exact dictF_congr 0 m.parts fun j _ h2=>(ep j).symm
   | cells=>rfl
   | refu=>rfl
   | part k =>
     show HO.ins _ _ _=HO.ins _ _ _;rw [ed h,eo (r:=.sizes k) h,eo (r:=.rows k) h]
     rfl
   | sizes k=>rfl
   | rows k=>rfl
   | put k =>
     have hk:k < m.puts.length:=h;show HO.ins _ _ (fU (ad (.part (m.pu k).part)) _ _)=HO.ins _ _ (fU (ad' (.part ((m.addPut u).pu k).part)) _ _)
     rw [ed h,eo (r:=.ways k) hk,eo (r:=.cor k) hk,ep,MW.pu_old m u hk]
   | ways k =>
     have hk:k < m.puts.length:=h;show HO.lst _=HO.lst _
     rw [MW.pu_old m u hk]
   | cor k =>
     have hk:k < m.puts.length:=h;show HO.lst _=HO.lst _;rw [MW.pu_old m u hk]
 refine ⟨ad',dx',rl',⟨fun r h=>?_,fun r h=>?_⟩,⟨fun b o e h=>hk b o e (h .puts trivial),fun r h=>⟨used_addPut h,eo h⟩,fun r h=>?_⟩⟩
 · rcases used_addPut_inv h with h | rfl | rfl | rfl
   · rw [eo h];exact hold r h
   · rw [e1,h1];show _=some (HO.ins CU (dx' (.put m.puts.length)) (fU (ad' (.part ((m.addPut u).pu m.puts.length).part)) (ad' (.ways m.puts.length)) (ad' (.cor m.puts.length))));rw [e2,e3,MW.pu_new,ep,show dx' (.put m.puts.length)=dx0 from if_pos rfl]
   · rw [e2,h2];show _=some (HO.lst (vInts ((m.addPut u).pu m.puts.length).ways));rw [MW.pu_new]
   · rw [e3,h3];show _=some (HO.lst (vInts ((m.addPut u).pu m.puts.length).cor));rw [MW.pu_new]
 · rcases used_addPut_inv h with h | rfl | rfl | rfl
   · rw [eo h];show (if _ then _ else _)=_;rw [if_neg (W.ne_new h hx),if_neg (W.ne_new h hs),if_neg (W.ne_new h hr)];exact W.lab r h
   · rw [e1];exact if_pos rfl
   · rw [e2];exact (if_neg (Ne.symm n1)).trans (if_pos rfl)
   · rw [e3];exact (if_neg (Ne.symm n2)).trans ((if_neg (Ne.symm n3)).trans (if_pos rfl))
 · rcases used_addPut_inv h with h | rfl | rfl | rfl
   · exact .inl h
   · exact .inr (by rw [e1]; exact hx)
   · exact .inr (by rw [e2]; exact hs)
   · exact .inr (by rw [e3]; exact hr)
end
end Ho
end
section
set_option Elab.async false
set_option linter.all false
set_option maxRecDepth 100000
namespace Ho
open PySem hiding start
open PySem.Spec
open PyProof.Rows hiding St
open L2
noncomputable abbrev sCutA:Stmt:=top 36
section
variable {P:Program} {w:World} {K:PySem.W.Frag} {mg:Str→Option Value} {base:Heap}
theorem fP_sizes {a r:Addr} {c:Int}:List.lookup (Str.ofString "sizes") (fP a c r)=some (V.ref a):=by
 rw [look_eq]
theorem fP_cuts {a r:Addr} {c:Int}:List.lookup (Str.ofString "cuts") (fP a c r)=some (V.int c):=by
 rw [look_ne (by decide +kernel),look_eq]
theorem fP_rows {a r:Addr} {c:Int}:List.lookup (Str.ofString "rows") (fP a c r)=some (V.ref r):=by
 rw [look_ne (by decide +kernel),look_ne (by decide +kernel),look_eq]
theorem fU_part {p w c:Addr}:List.lookup (Str.ofString "part") (fU p w c)=some (V.ref p):=by
 rw [look_eq]
theorem fU_ways {p w c:Addr}:List.lookup (Str.ofString "ways") (fU p w c)=some (V.ref w):=by
 rw [look_ne (by decide +kernel),look_eq]
theorem fU_corner {p w c:Addr}:List.lookup (Str.ofString "corner") (fU p w c)=some (V.ref c):=by
 rw [look_ne (by decide +kernel),look_ne (by decide +kernel),look_eq]
theorem fW_parts {d p c r:Addr} {l:V}:List.lookup (Str.ofString "parts") (fW d l p c r)=some (V.ref d):=by
 rw [look_eq]
theorem fW_latest {d p c r:Addr} {l:V}:List.lookup (Str.ofString "latest") (fW d l p c r)=some l:=by
 rw [look_ne (by decide +kernel),look_eq]
theorem fW_puts {d p c r:Addr} {l:V}:List.lookup (Str.ofString "puts") (fW d l p c r)=some (V.ref p):=by
 rw [look_ne (by decide +kernel),look_ne (by decide +kernel),look_eq]
theorem fW_cells {d p c r:Addr} {l:V}:List.lookup (Str.ofString "cells") (fW d l p c r)=some (V.ref c):=by
 rw [look_ne (by decide +kernel),look_ne (by decide +kernel),look_ne (by decide +kernel),look_eq]
theorem fW_refusal {d p c r:Addr} {l:V}:List.lookup (Str.ofString "refusal") (fW d l p c r)=some (V.ref r):=by
 rw [look_ne (by decide +kernel),look_ne (by decide +kernel),look_ne (by decide +kernel),look_ne (by decide +kernel),look_eq]
theorem clr_ok (r g:Nat):Builtin.bitAnd (r:Int) (Builtin.bitNot (g:Int))=((clr r g:Nat):Int):=by
 unfold Builtin.bitAnd;have h1:decide (0≤(r:Int))=true:=decide_eq_true (by omega);have h2:decide (0≤Builtin.bitNot (g:Int))=false:=decide_eq_false (by unfold Builtin.bitNot; omega);rw [h1,h2];show (r:Int) - (((r:Int).toNat &&& (Builtin.bitNot (Builtin.bitNot (g:Int))).toNat:Nat):Int)=_;have h3:Builtin.bitNot (Builtin.bitNot (g:Int))=(g:Int):=by unfold Builtin.bitNot; omega
 rw [h3,Int.toNat_natCast,Int.toNat_natCast];unfold clr;have:r &&& g≤r:=Nat.and_le_left;omega
theorem len_cutRow (d gone y z:Nat) (R:List Nat) (j:Nat):(cutRow d gone y z R j).length=R.length:=List.length_set ..
theorem len_fold {f:List Nat→Nat→List Nat} (h:∀ R j,(f R j).length=R.length):∀ (l:List Nat) (R:List Nat),(l.foldl f R).length=R.length
 | [],_=>rfl
 | a :: l,R=>by rw [List.foldl_cons,len_fold h l,h]
theorem len_cutFlat (d gone y dd z:Nat) (R:List Nat):(cutFlat d gone y dd R z).length=R.length:=len_fold (len_cutRow d gone y z) _ _
theorem fold_succ {α:Type} (f:α→Nat→α) (a:α) (n:Nat):(List.range (n+1)).foldl f a=f ((List.range n).foldl f a) n:=by
 rw [List.range_succ,List.foldl_append,List.foldl_cons,List.foldl_nil]
theorem scCutA:FnScope ["part","corner","lengths","gone","z","y","row"] ["part","corner","lengths"] (defScope sCutA):=⟨rfl,rfl,rfl,by decide +kernel,rfl,by decide +kernel,by decide +kernel⟩
structure TxtC (K:PySem.W.Frag) (mg:Str→Option Value):Prop where
 range:mg "range" = none
inductive SpCutA (CP:Addr) (vs:List V) (H:Hp) (Q:VK):Prop
 | mk (pa dxp sz rw cl ll:Addr) (c:Int) (pw pd ph x y z dw dd dh:Nat) (rows:List Nat) (h0:vs=[.ref pa,.ref cl,.ref ll]) (h1:H pa=some (.ins CP dxp (fP sz c rw))) (h2:H sz=some (.lst (vNats [pw,pd,ph]))) (h3:H rw=some (.lst (vNats rows))) (h4:H cl=some (.lst (vInts [(x:Int),(y:Int),(z:Int)]))) (h5:H ll=some (.lst (vInts [(dw:Int),(dd:Int),(dh:Int)]))) (h6:rw≠sz) (h7:rw≠cl) (h8:rw≠ll) (h9:rows.length=pd*ph) (h10:x+dw≤16) (h11:y+dd≤pd) (h12:z+dh≤ph) (h13:pd≤16) (h14:ph≤16) (h15:Q .non (upd H rw (.lst (vNats (cutAway pd rows x y z dw dd dh))))):SpCutA CP vs H Q
noncomputable def spCutA (CP:Addr):Sp:=fun vs H Q _=>SpCutA CP vs H Q
theorem ok_cutA {f CP:Addr} {fd:FuncData} (F:Fun K "cut_away" "cut_away" sCutA f fd) (T:TxtC K mg) (TP:TxtP K mg CP):FnOk P w K mg base CX0 1 f fd ["part","corner","lengths"] (spCutA CP):=by
 refine F.ok scCutA (fun vs H Q E h=>?_) (fun cdv A outer s H vs Q E hr h=>?_)
 · obtain ⟨pa,dxp,sz,rw',cl,ll,c,pw,pd,ph,x,y,z,dw,dd,dh,rows,rfl,_⟩:=h;rfl
 · obtain ⟨pa,dxp,sz,rw',cl,ll,c,pw,pd,ph,x,y,z,dw,dd,dh,rows,rfl,hpa,hsz,hrw,hcl,hll,n1,n2,n3,hlen,hx,hy,hz,hd16,hh16,k⟩:=h;have n4:rw'≠pa:=ne_of hrw hpa (by intro z; cases z)
   refine ⟨_,pss_k (ps_set (i:=3) scCutA.nd rfl (Or.inl rfl) (pe_op op_shl (pe_op op_sub (pe_op op_shl pe_int (pe_ix ix_list (pv 2) pe_int (fun _ _=>rfl))) pe_int) (pe_ix ix_list (pv 1) pe_int (fun _ _=>rfl))))
     (pss_one (ps_for PassesOwn.never rfl (pi_range2 rfl T.range (pa_cons (pe_ix ix_list (pv 1) pe_int (fun _ _=>rfl)) (pa_cons (pe_op op_add (pe_ix ix_list (pv 1) pe_int (fun _ _=>rfl)) (pe_ix ix_list (pv 2) pe_int (fun _ _=>rfl))) pa_nil))) (pg_name (i:=4) scCutA.nd rfl (Or.inl rfl))
       (pss_one (ps_for PassesOwn.never rfl (pi_range2 rfl T.range (pa_cons (pe_ix ix_list (pv 1) pe_int (fun _ _=>rfl)) (pa_cons (pe_op op_add (pe_ix ix_list (pv 1) pe_int (fun _ _=>rfl)) (pe_ix ix_list (pv 2) pe_int (fun _ _=>rfl))) pa_nil))) (pg_name (i:=5) scCutA.nd rfl (Or.inl rfl))
         (pss_k (ps_set (i:=6) scCutA.nd rfl (Or.inl rfl) (pe_op op_add (pv 5) (pe_op op_mul (pe_ix ix_list (pe_fld (pv 0) rfl) pe_int (fun _ _=>rfl)) (pv 4))))
         (pss_one (ps_asg (pe_op op_and (pe_ix ix_list (pe_fld (pv 0) rfl) (pv 6) (fun _ _=>rfl)) (pe_un un_inv (pv 3))) (pg_sub (pe_fld (pv 0) rfl) (pv 6) set_list)))))))),?_⟩
   push_cast [and_true]
   have eG:((1:Int)*2 ^ ((dw:Int).toNat) - 1)*2 ^ ((x:Int).toNat)=(((2 ^ dw - 1)*2 ^ x:Nat):Int):=by
     rw [Int.toNat_natCast,Int.toNat_natCast,Int.one_mul];have:0 < 2 ^ dw:=Nat.two_pow_pos dw;rw [Int.natCast_mul,Int.natCast_sub this];simp
   have h16:(2:Nat) ^ dw≤2 ^ 16:=Nat.pow_le_pow_right (by decide) (by omega)
   have hc1:CPow (1*2 ^ ((dw:Int).toNat) - 1) (x:Int):=by
     refine ⟨by omega,by omega,?_⟩;rw [Int.toNat_natCast,Int.one_mul];have e:((2:Int) ^ dw)=((2 ^ dw:Nat):Int):=by simp
     rw [e];have e2:(2:Nat) ^ 16 < 2 ^ 64:=by decide
     have:0 < 2 ^ dw:=Nat.two_pow_pos dw;omega
   refine ixI (z:=dw) (SqL.of hll) rfl ⟨⟨by omega,by omega,by decide⟩,ixI (z:=x) (SqL.of hcl) rfl ⟨hc1,?_⟩⟩;rw [eG];generalize hg:(2 ^ dw - 1)*2 ^ x=g;have hcl2:∀ R,SqL K (upd H rw' (.lst R)) cl (vInts [(x:Int),(y:Int),(z:Int)]):=fun R=>SqL.of (by rw [upd_ne (Ne.symm n2)]; exact hcl);have hll2:∀ R,SqL K (upd H rw' (.lst R)) ll (vInts [(dw:Int),(dd:Int),(dh:Int)]):=fun R=>SqL.of (by rw [upd_ne (Ne.symm n3)]; exact hll);have hsz2:∀ R,SqL K (upd H rw' (.lst R)) sz (vNats [pw,pd,ph]):=fun R=>SqL.of (by rw [upd_ne (Ne.symm n1)]; exact hsz);have hpa2:∀ R,upd H rw' (.lst R) pa=some (.ins CP dxp (fP sz c rw')):=fun R=>by rw [upd_ne (Ne.symm n4)]; exact hpa
   have h0:H=upd H rw' (.lst (vNats rows)):=by
     funext b;by_cases hb:b=rw'
     · rw [hb,upd_same,hrw]
     · rw [upd_ne hb]
   refine unf ?_;push_cast [and_true];refine tFor_rangeE (lo:=(z:Int)) (n:=dh) (H1:=H) (fun i σ H'=>∃ v4 v5 v6,σ=[some (V.ref pa),some (V.ref cl),some (V.ref ll),some (V.int (g:Int)),v4,v5,v6]∧H'=upd H rw' (.lst (vNats ((List.range i).foldl (fun R k=>cutFlat pd g y dd R (z+k)) rows)))) (fun R r=>?_) ⟨none,none,none,rfl,h0⟩ ?_ ?_
   · push_cast [and_true];refine ixV (v:=.int z) (SqL.of hcl) rfl (ixV (v:=.int z) (SqL.of hcl) rfl (ixV (v:=.int dh) (SqL.of hll) rfl (exI (exI (exI ⟨by omega,by omega,by omega,by omega,?_⟩)))));rw [show ((z:Int)+(dh:Int) - (z:Int)).toNat=dh by omega];exact r
   · rintro i σ H' E hi ⟨v4,v5,v6,rfl,rfl⟩ hE _ _;generalize hR:(List.range i).foldl (fun R k=>cutFlat pd g y dd R (z+k)) rows=R;have hRl:R.length=rows.length:=by rw [← hR]; exact len_fold (fun R k=>len_cutFlat pd g y dd (z+k) R) _ _
     push_cast [and_true];refine tFor_rangeE (lo:=(y:Int)) (n:=dd) (H1:=upd H rw' (.lst (vNats R))) (fun j σ H'=>∃ v5 v6,σ=[some (V.ref pa),some (V.ref cl),some (V.ref ll),some (V.int (g:Int)),some (V.int ((z:Int)+(i:Int))),v5,v6]∧H'=upd H rw' (.lst (vNats ((List.range j).foldl (cutRow pd g y (z+i)) R)))) (fun Q r=>?_) ⟨v5,v6,rfl,rfl⟩ ?_ ?_
     · push_cast [and_true];refine ixV (v:=.int y) (hcl2 _) rfl (ixV (v:=.int y) (hcl2 _) rfl (ixV (v:=.int dd) (hll2 _) rfl (exI (exI (exI ⟨by omega,by omega,by omega,by omega,?_⟩)))));rw [show ((y:Int)+(dd:Int) - (y:Int)).toNat=dd by omega];exact r
     · rintro j σ H' E2 hj ⟨v5,v6,rfl,rfl⟩ hE2 _ _;generalize hS:(List.range j).foldl (cutRow pd g y (z+i)) R=S;have hSl:S.length=rows.length:=by rw [← hS,len_fold (len_cutRow pd g y (z+i)),hRl]
       have hrow:(y:Int)+(j:Int)+(pd:Int)*((z:Int)+(i:Int))=((y+j+pd*(z+i):Nat):Int):=by simp
       have hlt:y+j+pd*(z+i) < S.length:=by
         rw [hSl,hlen];have h1:pd*(z+i+1)≤pd*ph:=Nat.mul_le_mul_left _ (by omega);rw [Nat.mul_add,Nat.mul_one] at h1;omega
       push_cast [hpa2,fP_sizes,fP_rows,TP.cl,TP.sizes,TP.rows];have hat:S[y+j+pd*(z+i)]? = some (S.getD (y+j+pd*(z+i)) 0):=getD_at 0 hlt
       have hix:ixN (vNats S).length ((y+j+pd*(z+i):Nat):Int)=some (y+j+pd*(z+i)):=by
         unfold ixN;rw [List.length_map,if_pos (by omega),if_pos (by omega),Int.toNat_natCast]
       refine ixI (z:=pd) (hsz2 _) rfl ⟨.inl ⟨by omega,by omega⟩,?_⟩;refine unf ?_;push_cast [hpa2,fP_sizes,fP_rows,TP.cl,TP.sizes,TP.rows];refine ⟨_,SqL.of upd_same,.int ((S.getD (y+j+pd*(z+i)) 0:Nat):Int),?_,_,rfl,_,by rw [hrow]; exact hix,?_⟩
       · rw [hrow];exact atI_nat (by rw [List.getElem?_map,hat]; rfl)
       · refine hE2 _ _ ⟨_,_,rfl,?_⟩;rw [fold_succ,hS,clr_ok];show upd H rw' (.lst ((vNats S).set _ _))=upd H rw' (.lst (vNats (cutRow pd g y (z+i) S j)));unfold cutRow;rw [vNats,vNats,List.map_set]
     · rintro σ H' ⟨v5,v6,rfl,rfl⟩;refine hE _ _ ⟨_,v5,v6,rfl,?_⟩;rw [fold_succ,hR];rfl
   · rintro σ H' ⟨v4,v5,v6,rfl,rfl⟩;subst hg;exact k
end
end Ho
end
section
set_option Elab.async false
set_option linter.all false
set_option maxRecDepth 100000
namespace Ho
open PySem hiding start
open PySem.Spec
open PyProof.Rows hiding St
open L2
noncomputable abbrev sPart:Stmt:=top 34
structure TxtR (K:PySem.W.Frag) (mg:Str→Option Value) (aG:Addr):Prop where
 any:mg "any" = none
 enum:mg "enumerate" = none
 NF:∃ t,mg "NO_FAULT" = some (.int 0 t)
 NO:∃ t,mg "NOT_FORMED" = some (.int 1 t)
 TM:∃ t,mg "TOO_MUCH" = some (.int 2 t)
 CS:∃ t,mg "CANT_STAND" = some (.int 3 t)
 CL:∃ t,mg "CLASHES" = some (.int 4 t)
 MP:∃ t,mg "MOST_PARTS" = some (.int 32 t)
 MC:∃ t,mg "MOST_CUTS" = some (.int 64 t)
 MU:∃ t,mg "MOST_PUTS" = some (.int 32 t)
 LS:∃ t,mg "LONGEST_SIDE" = some (.int 16 t)
 FC:∃ t,mg "FARTHEST_CORNER" = some (.int 48 t)
 GR:mg "GRAINS" = some (.ref aG)
 gr:∀ H,SqT K H aG [.str "x",.str "y",.str "z"]
structure GW (ws:List Str):Prop where
 len:ws.length≤65602
 ok:∀ x∈ws,x.length < sizeLine∧GS x
structure Cal (P:Program) (w:World) (K:PySem.W.Frag) (mg:Str→Option Value) (base:Heap) (k:Nat) (x:Str) (ps:List Str) (sp:Sp):Prop where
 ex:∃ (g:Addr) (gd:FuncData),FnOk P w K mg base CX0 k g gd ps sp∧Binds K gd ps []∧mg x=some (.ref g)∧PySem.W.keepIn K (.ref g)=true
structure Mkr (P:Program) (w:World) (K:PySem.W.Frag) (mg:Str→Option Value) (base:Heap) (C:Addr) (x:Str) (ps:List Str) (sp:Sp):Prop where
 ex:∃ (g:Addr) (gd:FuncData),Mk K C g∧FnOk P w K mg base CX0 1 g gd ps sp∧Binds K gd ps []∧mg x=some (.ref C)
section
variable {P:Program} {w:World} {K:PySem.W.Frag} {mg:Str→Option Value} {base:Heap}
theorem scPart:FnScope ["work","words","sizes"] ["work","words"] (defScope sPart):=⟨rfl,rfl,rfl,by decide +kernel,rfl,by decide +kernel,by decide +kernel⟩
inductive SpRead (CW CP CU:Addr) (rd:MW→List Cs→Int × MW) (vs:List V) (H:Hp) (Q:VK):Prop
 | mk (m:MW) (ad dx:Ad) (rl:Addr→Role) (wl:Addr) (ws:List Str) (h0:vs=[.ref (ad .work),.ref wl]) (h1:WAt CW CP CU H m ad dx rl) (h2:m.Wf) (h3:H wl=some (.lst (vStrs ws))) (h4:ws≠[]) (h5:GW ws) (h6:∀ (H':Hp) (ad' dx':Ad) (rl':Addr→Role),WAt CW CP CU H' (rd m (ws.map TL.tl)).2 ad' dx' rl'→Go H m ad H' (rd m (ws.map TL.tl)).2 ad'→Q (.int (rd m (ws.map TL.tl)).1) H'):SpRead CW CP CU rd vs H Q
noncomputable def spRead (CW CP CU:Addr) (rd:MW→List Cs→Int × MW):Sp:=fun vs H Q _=>SpRead CW CP CU rd vs H Q
theorem cut3 (ws:List Str) (i:Nat) {a b:Int} (ha:a=(i:Int)) (hb:b=(i:Int)+3):cutV (vStrs ws) (some a) (some b)=vStrs ((ws.drop i).take 3):=by
 have e1:HT.sIx (vStrs ws).length 0 (some a)=min i (vStrs ws).length:=by rw [ha]; exact HT.sIx_nat _ _ _
 have e2:HT.sIx (vStrs ws).length (vStrs ws).length (some b)=min (i+3) (vStrs ws).length:=by
   rw [hb,show ((i:Int)+3)=((i+3:Nat):Int) by omega];exact HT.sIx_nat _ _ _
 unfold cutV;rw [e1,e2,List.length_map,vStrs,← List.map_drop,← List.map_take];congr 1;by_cases h:i≤ws.length
 · rw [Nat.min_eq_left h];by_cases h3:i+3≤ws.length
   · rw [Nat.min_eq_left h3,Nat.add_sub_cancel_left]
   · rw [Nat.min_eq_right (by omega),List.take_of_length_le (by rw [List.length_drop]; omega),List.take_of_length_le (by rw [List.length_drop]; omega)]
 · rw [List.drop_of_length_le (by omega),List.drop_of_length_le (by omega),List.take_nil,List.take_nil]
theorem len6 {ws:List Str} (h:ws.length=6):∃ a b c d e f,ws=[a,b,c,d,e,f]:=by
 obtain ⟨a,r,e,h⟩:=uncons h;obtain ⟨b,c,d,e',f,e2⟩:=six (a:=a) (congrArg (· + 1) h);exact ⟨a,b,c,d,e',f,by rw [e,e2]⟩
theorem len7 {ws:List Str} (h:ws.length=7):∃ a b c d e f g,ws=[a,b,c,d,e,f,g]:=by
 obtain ⟨a,r,e,h⟩:=uncons h;obtain ⟨b,c,d,e',f,g,e2⟩:=seven (a:=a) (congrArg (· + 1) h);exact ⟨a,b,c,d,e',f,g,by rw [e,e2]⟩
theorem str_beq (x y:Str):(x == y)=decide (TL.tl x=TL.tl y):=by
 rw [Bool.eq_iff_iff];simp only [beq_iff_eq,decide_eq_true_eq];exact ⟨fun e=>by rw [e],TL.ext_tl⟩
theorem grain_ok (x:Str):inV (.str x) [.str (Str.ofString "x"),.str (Str.ofString "y"),.str (Str.ofString "z")]=isGrain (TL.tl x):=by
 have e1:TL.tl (Str.ofString "x")=[120]:=(TL.tl_ofString _).trans (by decide);have e2:TL.tl (Str.ofString "y")=[121]:=(TL.tl_ofString _).trans (by decide);have e3:TL.tl (Str.ofString "z")=[122]:=(TL.tl_ofString _).trans (by decide);show ((Str.ofString "x" == x) || ((Str.ofString "y" == x) || ((Str.ofString "z" == x) || false)))=_;rw [str_beq,str_beq,str_beq,e1,e2,e3];unfold isGrain;rw [Bool.eq_iff_iff];simp only [Bool.or_eq_true,decide_eq_true_eq,beq_iff_eq,Bool.or_false,or_assoc];constructor
 · rintro (h | h | h) <;> simp [← h]
 · rintro (h | h | h) <;> simp [h]
theorem num_map (ws:List Str) (i:Nat):(((ws.drop i).take 3).map fun x=>V.int (num (TL.tl x)))=vInts (nums (ws.map TL.tl) i):=by
 unfold nums;rw [← List.map_drop,← List.map_take,List.map_map,vInts,List.map_map];rfl
theorem nums_len (ws:List Cs) (i:Nat):(nums ws i).length≤3:=by
 unfold nums;rw [List.length_map,List.length_take];omega
theorem ok_part {f CW CP CU aG:Addr} {fd:FuncData} (F:Fun K "read_part" "read_part" sPart f fd) (T:Txt K mg) (TR:TxtR K mg aG) (TW:TxtW K mg CW)
   (Cn:Cal P w K mg base 2 "read_numbers" ["words"] (spNumbers K)) (Ci:Cal P w K mg base 1 "is_name" ["word"] spIsName) (Ca:Cal P w K mg base 1 "all_within" ["numbers","least","most"] (spWithin K)) (Cp:Mkr P w K mg base CP "Part" ["self","sizes"] (spPartI CP)) :
   FnOk P w K mg base CX0 3 f fd ["work","words"] (spRead CW CP CU readPart):=by
 obtain ⟨gn,dn,Gn,bn,hn,kn⟩:=Cn.ex;obtain ⟨gi,di,Gi,bi,hi,ki⟩:=Ci.ex;obtain ⟨ga,da,Ga,ba,ha,ka⟩:=Ca.ex;obtain ⟨gp,dp,Mp,Gp,bp,hp⟩:=Cp.ex;refine F.ok scPart (fun vs H Q E h=>?_) (fun cdv A outer s H vs Q E hr h=>?_)
 · obtain ⟨m,ad,dx,rl,wl,ws,rfl,_⟩:=h;rfl
 · obtain ⟨m,ad,dx,rl,wl,ws,rfl,W,Wf,hw,hne,hgw,k⟩:=h;have hu:=hu_of hr;have hr1:Room 1 _:=hr.mono (by decide)
   refine ⟨_,pss_k (ps_set (i:=2) scPart.nd rfl (Or.inl rfl) (pe_call Gn hr rfl hn kn bn .nil pass0 (pa_cons (pe_slice sl_list (pv 1) (po_some pe_int) (po_some pe_int)) pa_nil)))
     (pss_k (ps_if (PW.pt (pw_or (pt_cmpR op_ne (pe_callB call_len_seq (by rfl) T.len PySem.boot_len (pa_cons (pv 1) pa_nil)) pe_int (nomark _))
         (pw_or (pt_not (pt_val (pe_call Gi hr1 rfl hi ki bi .nil pass0 (pa_cons (pe_ix ix_list (pv 1) pe_int (fun _ _=>rfl)) pa_nil))))
         (pw_or (pt_not (pt_val (pe_call Ga hr1 rfl ha ka ba .nil pass0 (pa_cons (pv 2) (pa_cons pe_int (pa_cons (pe_gi TR.LS) pa_nil))))))
         (pw_or1 (pt_cmpR op_notIn_seq (pe_ix ix_list (pv 1) pe_int (fun _ _=>rfl)) (pe_gr TR.GR) (by with_unfolding_all rfl)))))))
       (pss_one (ps_ret (pe_gi TR.NO))) pss_nil)
     (pss_k (ps_if (pt_truth (pe_fld (pv 0) rfl) (fun _=>rfl)) (pss_one (ps_ret (pe_gi TR.CS))) pss_nil)
     (pss_k (ps_if (pt_cmp (pc_din hu (pe_ix ix_list (pv 1) pe_int (fun _ _=>rfl)) (pe_fld (pv 0) rfl))) (pss_one (ps_ret (pe_gi TR.CL))) pss_nil)
     (pss_k (ps_if (pt_cmpR op_eq (pe_callB call_lenD (by rfl) T.len PySem.boot_len (pa_cons (pe_fld (pv 0) rfl) pa_nil)) (pe_gi TR.MP) (nomark _)) (pss_one (ps_ret (pe_gi TR.TM))) pss_nil)
     (pss_cons (ps_fld (pv 0) (pe_make Mp Gp hr rfl hp bp .nil pass0 (pa_cons (pv 2) pa_nil)) rfl)
     (pss_cons (ps_dput hu (pe_fld (pv 0) rfl) (pe_ix ix_list (pv 1) pe_int (fun _ _=>rfl)) (pe_fld (pv 0) rfl) rfl)
     (pss_one (ps_ret (pe_gi TR.NF))))))))),?_⟩
   have fail:∀ j:Int,readPart m (ws.map TL.tl)=(j,m)→∀ H',Same H H'→Q (.int j) H':=fun j e H' s'=>by
     have:=k H' ad dx rl (by rw [e]; exact W.same s') (by rw [e]; exact Go.same s');rw [e] at this;exact this
   push_cast [and_true];refine ⟨_,SqL.of hw,fun q hq=>⟨q,(ws.drop 2).take 3,rfl,SqL.of (by rw [upd_same,cut3 (a:=2) (b:=5) ws 2 rfl rfl]),by rw [List.length_take]; omega,fun x hx=>?_,fun p hp2=>?_⟩⟩
   · obtain ⟨h1,h2⟩:=hgw.ok x (List.mem_of_mem_drop (List.mem_of_mem_take hx));exact ⟨Nat.le_of_lt h1,h2⟩
   rw [num_map];have S1:Same H (upd (upd H q (.lst (cutV (vStrs ws) (some 2) (some 5)))) p (.lst (vInts (nums (ws.map TL.tl) 2)))):=(same_new hq).trans (same_new hp2);have hp0:H p=none:=(same_new hq).free hp2;have hsz:=upd_same (H:=upd H q (.lst (cutV (vStrs ws) (some 2) (some 5)))) (a:=p) (o:=.lst (vInts (nums (ws.map TL.tl) 2)));generalize upd (upd H q (.lst (cutV (vStrs ws) (some 2) (some 5)))) p (.lst (vInts (nums (ws.map TL.tl) 2)))=H1 at S1 hsz ⊢;refine unf ?_;push_cast [and_true];refine ⟨_,.inl (SqL.of (S1 _ _ hw)),?_⟩;rw [List.length_map];by_cases h6:ws.length=6;rotate_left
   · rw [if_pos (by rw [Bool.not_eq_true',decide_eq_false_iff_not]; omega)];refine fail 1 ?_ H1 S1;unfold readPart;rw [if_pos (.inl (by rw [List.length_map]; exact h6))]
   rw [if_neg (by rw [h6]; decide)];obtain ⟨w0,w1,w2,w3,w4,w5,rfl⟩:=len6 h6;obtain ⟨l1,g1⟩:=hgw.ok w1 (by simp);refine ⟨_,SqL.of (S1 _ _ hw),.str w1,rfl,w1,rfl,Nat.le_of_lt l1,g1,_,rfl,?_⟩;cases hI:isName (TL.tl w1)
   · refine iteT (fail 1 ?_ H1 S1);unfold readPart;rw [if_pos (.inr (.inl hI))]
   refine iteF ⟨p,_,1,16,rfl,SqL.of hsz,Nat.le_trans (nums_len _ _) (by decide),fun H2 s2=>⟨_,rfl,?_⟩⟩;have S2:Same H H2:=S1.trans s2;cases hA:allIn 1 16 (nums ([w0,w1,w2,w3,w4,w5].map TL.tl) 2)
   · refine iteT (fail 1 ?_ H2 S2);unfold readPart;rw [if_pos (.inr (.inr (.inl hA)))]
   refine iteF ⟨_,SqL.of (S2 _ _ hw),.str w5,rfl,_,.inr (TR.gr _),rfl,rfl,?_⟩;rw [grain_ok];cases hG:isGrain (TL.tl w5)
   · refine iteT (fail 1 ?_ H2 S2);unfold readPart;rw [if_pos (.inr (.inr (.inr hG)))]
   have hc:¬ (¬ ([w0,w1,w2,w3,w4,w5].map TL.tl).length=6∨isName (at_ ([w0,w1,w2,w3,w4,w5].map TL.tl) 1)=false∨allIn 1 16 (nums ([w0,w1,w2,w3,w4,w5].map TL.tl) 2)=false∨isGrain (at_ ([w0,w1,w2,w3,w4,w5].map TL.tl) 5)=false):=by
     rintro (h | h | h | h)
     · exact h rfl
     · rw [show at_ ([w0,w1,w2,w3,w4,w5].map TL.tl) 1=TL.tl w1 from rfl,hI] at h; cases h
     · rw [hA] at h; cases h
     · rw [show at_ ([w0,w1,w2,w3,w4,w5].map TL.tl) 5=TL.tl w5 from rfl,hG] at h; cases h
   have W2:=W.same S2;have hwk:H2 (ad .work)=some (.ins CW (dx .work) (fW (ad .dict) (latestV m ad) (ad .puts) (ad .cells) (ad .refu))):=W2.obj .work trivial;have hdc:H2 (ad .dict)=some (.dK (dictF ad 0 m.parts)):=W2.obj .dict trivial;have hpt:H2 (ad .puts)=some (.lst ((List.range m.puts.length).map fun k=>V.ref (ad (.put k)))):=W2.obj .puts trivial;refine iteF (unf ?_);push_cast [hwk,fW_puts,fW_parts,TW.cl,TW.puts,TW.parts];refine ⟨_,.inl ⟨_,SqL.of hpt,rfl⟩,?_⟩;by_cases hpu:m.puts=[];rotate_left
   · have e:(!((List.range m.puts.length).map fun k=>V.ref (ad (.put k))).isEmpty)=true:=by
       cases h:m.puts with
       | nil=>exact absurd h hpu
       | cons a r=>simp
     rw [e];refine iteT (fail 3 ?_ H2 S2);unfold readPart;rw [if_neg hc,if_pos hpu]
   rw [hpu];refine iteF (unf ?_);push_cast [hwk,fW_puts,fW_parts,TW.cl,TW.puts,TW.parts];refine ⟨_,SqL.of (S2 _ _ hw),.str w1,rfl,?_⟩;refine ⟨_,DGet.k (k:=Sum.inr (mkS (TL.tl w1))) hdc,?_⟩;rw [dictF_val,Nat.zero_add];have hkn:m.knows (at_ ([w0,w1,w2,w3,w4,w5].map TL.tl) 1)=m.parts.any fun p=>p.1 == TL.tl w1:=rfl;cases hK:m.parts.any fun p=>p.1 == TL.tl w1;rotate_left
   · rw [if_pos rfl];refine iteT (fail 4 ?_ H2 S2);unfold readPart;rw [if_neg hc,if_neg (fun h=>h hpu),if_pos (hkn.trans hK)]
   rw [if_neg Bool.false_ne_true];refine iteF (unf ?_);push_cast [hwk,fW_puts,fW_parts,TW.cl,TW.puts,TW.parts];refine ⟨_,hdc,?_⟩;rw [dictF_len];by_cases h32:m.parts.length=32
   · rw [if_pos (by rw [h32]; rfl)];refine fail 2 ?_ H2 S2;unfold readPart;rw [if_neg hc,if_neg (fun h=>h hpu),if_neg (by rw [hkn,hK]; exact Bool.false_ne_true),if_pos h32]
   rw [if_neg (by rw [decide_eq_true_eq]; omega)];refine unf ?_;push_cast [hwk,fW_puts,fW_parts,TW.cl,TW.puts,TW.parts]
   have eR:readPart m ([w0,w1,w2,w3,w4,w5].map TL.tl)=(0,m.add (TL.tl w1) (newPart (nums ([w0,w1,w2,w3,w4,w5].map TL.tl) 2))):=by
     unfold readPart;rw [if_neg hc,if_neg (fun h=>h hpu),if_neg (by rw [hkn,hK]; exact Bool.false_ne_true),if_neg h32];rfl
   have hsz2:=s2 _ _ hsz;have en:nums ([w0,w1,w2,w3,w4,w5].map TL.tl) 2=[num (TL.tl w2),num (TL.tl w3),num (TL.tl w4)]:=rfl;rw [en] at hsz2 hA eR
   have hA3:(1≤num (TL.tl w2)∧num (TL.tl w2)≤16)∧(1≤num (TL.tl w3)∧num (TL.tl w3)≤16)∧(1≤num (TL.tl w4)∧num (TL.tl w4)≤16):=by
     unfold allIn at hA
     simpa using hA
   obtain ⟨⟨a1,a2⟩,⟨b1,b2⟩,c1,c2⟩:=hA3;generalize num (TL.tl w2)=za at *;generalize num (TL.tl w3)=zb at *;generalize num (TL.tl w4)=zc at *;obtain ⟨a,rfl⟩:=Int.eq_ofNat_of_zero_le (show 0≤za by omega);obtain ⟨b,rfl⟩:=Int.eq_ofNat_of_zero_le (show 0≤zb by omega);obtain ⟨c,rfl⟩:=Int.eq_ofNat_of_zero_le (show 0≤zc by omega);intro x dx0 hx hdx hne0;have hx0:H x=none:=S2.free hx;have hpx:p≠x:=ne_of_none hsz2 hx;have hpd:p≠dx0:=ne_of_none hsz2 hdx;refine ⟨x,dx0,p,a,b,c,rfl,upd_same,by rw [upd_ne hpx,upd_ne hpd]; exact hsz2,by omega,by omega,by omega,fun H3 r hr3 hx3 hr4 k3=>?_⟩;have hrx:r≠x:=fun e=>by rw [e,upd_same] at hr3; cases hr3
   have hrd:r≠dx0:=fun e=>by rw [e,upd_ne hne0,upd_same] at hr3; cases hr3
   have hr2:H2 r=none:=by rw [upd_ne hrx,upd_ne hrd] at hr3; exact hr3
   have hr0:H r=none:=S2.free hr2;have S3:Same H2 H3:=fun b o e=>k3 b o (by rw [upd_ne (ne_of_none e hx),upd_ne (ne_of_none e hdx)]; exact e) (ne_of_none e hx);have hwk3:=S3 _ _ hwk;have hdc3:=S3 _ _ hdc;have hwl3:=S3 _ _ (S2 _ _ hw);have hww:wl≠ad .work:=ne_of hwl3 hwk3 (by intro z; cases z);have hdw:ad .dict≠ad .work:=W.ne trivial trivial (by simp)
   have e1:putF (Str.ofString "latest") (V.ref x) (fW (ad .dict) (latestV m ad) (ad .puts) (ad .cells) (ad .refu))=fW (ad .dict) (.ref x) (ad .puts) (ad .cells) (ad .refu):=by
     rw [putF_ne (by decide +kernel),putF_eq]
   refine ⟨rfl,CW,dx .work,_,hwk3,TW.cl,TW.latest,(by show (5:Nat) < 1000; decide),TW.cl,TW.latest,?_⟩;rw [e1];refine ⟨_,fW_latest,TW.cl,TW.parts,_,fW_parts,_,SqL.of (by rw [upd_ne hww]; exact hwl3),.str w1,rfl,_,rfl,_,DPut.k (k:=Sum.inr (mkS (TL.tl w1))) (by rw [upd_ne hdw]; exact hdc3) (by rw [dictF_len]; exact Nat.lt_of_le_of_lt Wf.np (by decide)),?_⟩;rw [putK_new _ (by rw [dictF_val,hK]; exact if_neg Bool.false_ne_true)];have hxw:ad .work≠x:=W.ne_new trivial hx0;have hxd:ad .dict≠x:=W.ne_new trivial hx0;have hpw:ad .work≠p:=W.ne_new trivial hp0;have hpd2:ad .dict≠p:=W.ne_new trivial hp0;have hrw:ad .work≠r:=W.ne_new trivial hr0;have hrd2:ad .dict≠r:=W.ne_new trivial hr0;have hpr:p≠r:=ne_of_none hsz2 hr2
   obtain ⟨ad',dx',rl',WA,GO⟩:=W.newPart (H':=upd (upd H3 (ad .work) (.ins CW (dx .work) (fW (ad .dict) (.ref x) (ad .puts) (ad .cells) (ad .refu)))) (ad .dict) (.dK (dictF ad 0 m.parts++[(Sum.inr (mkS (TL.tl w1)),.ref x)]))) (x:=x) (sz:=p) (rw:=r) (dx0:=dx0) Wf (TL.tl w1) (newPart [(a:Int),(b:Int),(c:Int)]) hx0 hp0 hr0 (Ne.symm hpx) (Ne.symm hrx) hpr
     (by rw [upd_ne (Ne.symm hxd),upd_ne (Ne.symm hxw)]; exact hx3)
     (by rw [upd_ne (Ne.symm hpd2),upd_ne (Ne.symm hpw)]; exact S3 _ _ hsz2)
     (by rw [upd_ne (Ne.symm hrd2),upd_ne (Ne.symm hrw)]; exact hr4)
     (by rw [upd_ne (Ne.symm hdw),upd_same])
     upd_same
     (fun b o e h1 h2=>by rw [upd_ne h2,upd_ne h1]; exact S3 _ _ (S2 _ _ e))
   have:=k _ ad' dx' rl' (by rw [eR]; exact WA) (by rw [eR]; exact GO);rw [eR] at this;exact this
end
end Ho
end
section
set_option Elab.async false
set_option linter.all false
set_option maxRecDepth 100000
namespace Ho
open PySem hiding start
open PySem.Spec
open PyProof.Rows hiding St
open L2
noncomputable abbrev sCut:Stmt:=top 35
section
variable {P:Program} {w:World} {K:PySem.W.Frag} {mg:Str→Option Value} {base:Heap}
theorem scCut:FnScope ["work","words","corner","lengths","part","axis"] ["work","words"] (defScope sCut):=⟨rfl,rfl,rfl,by decide +kernel,rfl,by decide +kernel,by decide +kernel⟩
theorem num_ge (w:Cs):num w = -1∨0≤num w:=by
 unfold num;split
 · split <;> right <;> omega
 · left; rfl
set_option maxHeartbeats 1000000 in
theorem ok_cut {f CW CP CU aG:Addr} {fd:FuncData} (F:Fun K "read_cut" "read_cut" sCut f fd) (T:Txt K mg) (TR:TxtR K mg aG) (TC:TxtC K mg) (TW:TxtW K mg CW) (TP:TxtP K mg CP)
   (Cn:Cal P w K mg base 2 "read_numbers" ["words"] (spNumbers K)) (Ca:Cal P w K mg base 1 "all_within" ["numbers","least","most"] (spWithin K)) (Cc:Cal P w K mg base 1 "cut_away" ["part","corner","lengths"] (spCutA CP)) :
   FnOk P w K mg base CX0 3 f fd ["work","words"] (spRead CW CP CU readCut):=by
 obtain ⟨gn,dn,Gn,bn,hn,kn⟩:=Cn.ex;obtain ⟨ga,da,Ga,ba,ha,ka⟩:=Ca.ex;obtain ⟨gc,dc,Gc,bc,hc,kc⟩:=Cc.ex;refine F.ok scCut (fun vs H Q E h=>?_) (fun cdv A outer s H vs Q E hr h=>?_)
 · obtain ⟨m,ad,dx,rl,wl,ws,rfl,_⟩:=h;rfl
 · obtain ⟨m,ad,dx,rl,wl,ws,rfl,W,Wf,hw,hne,hgw,k⟩:=h;have hu:=hu_of hr;have hr1:Room 1 _:=hr.mono (by decide)
   refine ⟨_,pss_k (ps_set (i:=2) scCut.nd rfl (Or.inr rfl) (pe_call Gn hr rfl hn kn bn .nil pass0 (pa_cons (pe_slice sl_list (pv 1) (po_some pe_int) (po_some pe_int)) pa_nil)))
     (pss_k (ps_set (i:=3) scCut.nd rfl (Or.inr rfl) (pe_call Gn hr rfl hn kn bn .nil pass0 (pa_cons (pe_slice sl_list (pv 1) (po_some pe_int) (po_some pe_int)) pa_nil)))
     (pss_k (ps_if (PW.pt (pw_or (pt_cmpR op_ne (pe_callB call_len_seq (by rfl) T.len PySem.boot_len (pa_cons (pv 1) pa_nil)) pe_int (nomark _))
         (pw_or (pt_cmpR op_in_seq (pe_gi T.NN) (pv 2) (by with_unfolding_all rfl))
         (pw_or1 (pt_not (pt_val (pe_call Ga hr1 rfl ha ka ba .nil pass0 (pa_cons (pv 3) (pa_cons pe_int (pa_cons (pe_gi TR.LS) pa_nil))))))))))
       (pss_one (ps_ret (pe_gi TR.NO))) pss_nil)
     (pss_cons (ps_set (i:=4) scCut.nd rfl (Or.inr rfl) (pe_fld (pv 0) rfl))
     (pss_k (ps_if (PW.pt (pw_or (pt_cmp (pc_isN (pv 4))) (pw_or1 (pt_truth (pe_fld (pv 0) rfl) (fun _=>rfl))))) (pss_one (ps_ret (pe_gi TR.CS))) pss_nil)
     (pss_k (ps_if (pt_val (pe_callB (cr_any rfl) (by rfl) TR.any (by decide +kernel) (pa_cons (pe_lc rfl scCut.nd (pi_range1 rfl TC.range (pa_cons pe_int pa_nil)) (blkOk_by (show blkC ["work","words","corner","lengths","part","axis"] (defScope sCut) _ [("axis",5)]=true from by decide +kernel)) (fun _ _ _ _ _=>pg_name (i:=5) scCut.nd rfl (Or.inl rfl)) (fun _ _ _ _ _=>pts_nil)
         (fun _ _ _ _ _=>pe_cmpR op_gt (pe_op op_add (pe_ix (r:=rIxL K) ix_list (pv 2) (pv 5) (fun _ _=>rfl)) (pe_ix (r:=rIxL K) ix_list (pv 3) (pv 5) (fun _ _=>rfl))) (pe_ix (r:=rIxL K) (ta:=tFld K (tVar 4) "sizes") ix_list (pe_fld (pv 4) rfl) (pv 5) (fun _ _=>rfl)) (nomark _))) pa_nil))) (pss_one (ps_ret (pe_gi TR.CL))) pss_nil)
     (pss_k (ps_if (pt_cmpR op_eq (pe_fld (pv 4) rfl) (pe_gi TR.MC) (nomark _)) (pss_one (ps_ret (pe_gi TR.TM))) pss_nil)
     (pss_cons (ps_fldaug (pv 4) pe_int in_add)
     (pss_cons (ps_expr (pe_call Gc hr1 rfl hc kc bc .nil pass0 (pa_cons (pv 4) (pa_cons (pv 2) (pa_cons (pv 3) pa_nil)))))
     (pss_one (ps_ret (pe_gi TR.NF))))))))))),?_⟩
   have fail:∀ j:Int,readCut m (ws.map TL.tl)=(j,m)→∀ H',Same H H'→Q (.int j) H':=fun j e H' s'=>by
     have:=k H' ad dx rl (by rw [e]; exact W.same s') (by rw [e]; exact Go.same s');rw [e] at this;exact this
   push_cast [and_true];refine ⟨_,SqL.of hw,fun q hq=>⟨q,(ws.drop 1).take 3,rfl,SqL.of (by rw [upd_same,cut3 (a:=1) (b:=4) ws 1 rfl rfl]),by rw [List.length_take]; omega,fun x hx=>?_,fun p hp2=>?_⟩⟩
   · obtain ⟨h1,h2⟩:=hgw.ok x (List.mem_of_mem_drop (List.mem_of_mem_take hx));exact ⟨Nat.le_of_lt h1,h2⟩
   rw [num_map];have S1:Same H (upd (upd H q (.lst (cutV (vStrs ws) (some 1) (some 4)))) p (.lst (vInts (nums (ws.map TL.tl) 1)))):=(same_new hq).trans (same_new hp2);have hp0:H p=none:=(same_new hq).free hp2;have hco:=upd_same (H:=upd H q (.lst (cutV (vStrs ws) (some 1) (some 4)))) (a:=p) (o:=.lst (vInts (nums (ws.map TL.tl) 1)));generalize upd (upd H q (.lst (cutV (vStrs ws) (some 1) (some 4)))) p (.lst (vInts (nums (ws.map TL.tl) 1)))=H1 at S1 hco ⊢;refine unf ?_;push_cast [and_true];refine ⟨_,SqL.of (S1 _ _ hw),fun q2 hq2=>⟨q2,(ws.drop 4).take 3,rfl,SqL.of (by rw [upd_same,cut3 (a:=4) (b:=7) ws 4 rfl rfl]),by rw [List.length_take]; omega,fun x hx=>?_,fun p2 hp3=>?_⟩⟩
   · obtain ⟨h1,h2⟩:=hgw.ok x (List.mem_of_mem_drop (List.mem_of_mem_take hx));exact ⟨Nat.le_of_lt h1,h2⟩
   rw [num_map];have S2:Same H1 (upd (upd H1 q2 (.lst (cutV (vStrs ws) (some 4) (some 7)))) p2 (.lst (vInts (nums (ws.map TL.tl) 4)))):=(same_new hq2).trans (same_new hp3);have hp20:H1 p2=none:=(same_new hq2).free hp3;have hle:=upd_same (H:=upd H1 q2 (.lst (cutV (vStrs ws) (some 4) (some 7)))) (a:=p2) (o:=.lst (vInts (nums (ws.map TL.tl) 4)));generalize upd (upd H1 q2 (.lst (cutV (vStrs ws) (some 4) (some 7)))) p2 (.lst (vInts (nums (ws.map TL.tl) 4)))=H2 at S2 hle ⊢;have hco2:=S2 _ _ hco;have S12:=S1.trans S2;refine unf ?_;push_cast [and_true];refine ⟨_,.inl (SqL.of (S12 _ _ hw)),?_⟩;rw [List.length_map];by_cases h7:ws.length=7;rotate_left
   · rw [if_pos (by rw [Bool.not_eq_true',decide_eq_false_iff_not]; omega)];refine fail 1 ?_ H2 S12;unfold readCut;rw [if_pos (.inl (by rw [List.length_map]; exact h7))]
   rw [if_neg (by rw [h7]; decide)];refine ⟨_,.inl (SqL.of hco2),rfl,by rw [List.all_map]; exact List.all_eq_true.mpr (fun _ _=>rfl),?_⟩
   have ein:inV (V.int (-1)) (vInts (nums (ws.map TL.tl) 1))=(nums (ws.map TL.tl) 1).contains (-1):=by
     unfold inV;rw [List.any_map,List.contains_eq_any_beq];congr 1;funext z;exact BEq.comm
   rw [ein];cases hN:(nums (ws.map TL.tl) 1).contains (-1);rotate_left
   · refine iteT (fail 1 ?_ H2 S12);unfold readCut;rw [if_pos (.inr (.inl hN))]
   refine iteF ⟨p2,_,1,16,rfl,SqL.of hle,Nat.le_trans (nums_len _ _) (by decide),fun H3 s3=>⟨_,rfl,?_⟩⟩;have S3:Same H H3:=S12.trans s3;cases hA:allIn 1 16 (nums (ws.map TL.tl) 4)
   · refine iteT (fail 1 ?_ H3 S3);unfold readCut;rw [if_pos (.inr (.inr hA))]
   refine iteF (unf ?_)
   have hc0:¬ (¬ (ws.map TL.tl).length=7∨(nums (ws.map TL.tl) 1).contains (-1)=true∨allIn 1 16 (nums (ws.map TL.tl) 4)=false):=by
     rintro (h | h | h)
     · exact h (by rw [List.length_map]; exact h7)
     · rw [hN] at h; cases h
     · rw [hA] at h; cases h
   have W3:=W.same S3;have hwk:H3 (ad .work)=some (.ins CW (dx .work) (fW (ad .dict) (latestV m ad) (ad .puts) (ad .cells) (ad .refu))):=W3.obj .work trivial;have hpt:H3 (ad .puts)=some (.lst ((List.range m.puts.length).map fun k=>V.ref (ad (.put k)))):=W3.obj .puts trivial;push_cast [hwk,fW_puts,fW_latest,TW.cl,TW.puts,TW.latest,tIsN]
   cases hgl:m.parts.getLast? with
   | none =>
     have e0:m.parts=[]:=List.getLast?_eq_none_iff.mp hgl
     have el:latestV m ad = .non:=by
       unfold latestV;rw [e0];rfl
     rw [el];refine iteT (fail 3 ?_ H3 S3);unfold readCut
     rw [if_neg hc0,hgl]
   | some pl =>
     have hlen:=last_len hgl;have hL:m.parts.length - 1 < m.parts.length:=by omega
     have el:latestV m ad = .ref (ad (.part (m.parts.length - 1))):=by
       unfold latestV;rw [if_neg (by omega)]
     rw [el];refine iteF ⟨_,.inl ⟨_,SqL.of hpt,rfl⟩,?_⟩
     have eR0:readCut m (ws.map TL.tl)=(if m.puts≠[] then (3,m) else if pl.2.beyond (nums (ws.map TL.tl) 1) (nums (ws.map TL.tl) 4)=true then (4,m) else if pl.2.cuts=64 then (2,m) else (0,m.setLast (pl.1,pl.2.cut (nums (ws.map TL.tl) 1) (nums (ws.map TL.tl) 4)))):=by
       unfold readCut;rw [if_neg hc0,hgl];rfl
     by_cases hpu:m.puts=[];rotate_left
     · have e:(!((List.range m.puts.length).map fun k=>V.ref (ad (.put k))).isEmpty)=true:=by
         cases h:m.puts with
         | nil=>exact absurd h hpu
         | cons a r=>simp
       rw [e];refine iteT (fail 3 ?_ H3 S3);rw [eR0,if_pos hpu]
     rw [if_neg (fun h=>h hpu)] at eR0;rw [hpu];refine iteF (unf ?_);push_cast [and_true];obtain ⟨w0,w1,w2,w3,w4,w5,w6,rfl⟩:=len7 h7;have e1:nums ([w0,w1,w2,w3,w4,w5,w6].map TL.tl) 1=[num (TL.tl w1),num (TL.tl w2),num (TL.tl w3)]:=rfl;have e4:nums ([w0,w1,w2,w3,w4,w5,w6].map TL.tl) 4=[num (TL.tl w4),num (TL.tl w5),num (TL.tl w6)]:=rfl;have hle3:=s3 _ _ hle;have hco3:=s3 _ _ hco2;rw [e1] at hco3 hN;rw [e4] at hle3 hA;rw [e1,e4] at eR0
     have hN3:0≤num (TL.tl w1)∧0≤num (TL.tl w2)∧0≤num (TL.tl w3):=by
       simp only [List.contains_cons,List.contains_nil,Bool.or_false,Bool.or_eq_false_iff,beq_eq_false_iff_ne] at hN;obtain ⟨n1,n2,n3⟩:=hN;exact ⟨(num_ge _).resolve_left (Ne.symm n1),(num_ge _).resolve_left (Ne.symm n2),(num_ge _).resolve_left (Ne.symm n3)⟩
     have hA3:(1≤num (TL.tl w4)∧num (TL.tl w4)≤16)∧(1≤num (TL.tl w5)∧num (TL.tl w5)≤16)∧(1≤num (TL.tl w6)∧num (TL.tl w6)≤16):=by
       unfold allIn at hA
       simpa using hA
     clear hN hA e1 e4 ein hc0 hgw hc;generalize num (TL.tl w1)=x0 at *;generalize num (TL.tl w2)=x1 at *;generalize num (TL.tl w3)=x2 at *;generalize num (TL.tl w4)=l0 at *;generalize num (TL.tl w5)=l1 at *;generalize num (TL.tl w6)=l2 at *;have Wp:=Wf.pt hL;have hlp:=pt_last hgl;rw [hlp] at Wp
     have hpa:H3 (ad (.part (m.parts.length - 1)))=some (.ins CP (dx (.part (m.parts.length - 1))) (fP (ad (.sizes (m.parts.length - 1))) pl.2.cuts (ad (.rows (m.parts.length - 1))))):=by
       have:=W3.obj (.part (m.parts.length - 1)) hL;rw [this];show some (HO.ins CP _ (fP _ (m.pt (m.parts.length - 1)).cuts _))=_;rw [hlp]
     have hsz:H3 (ad (.sizes (m.parts.length - 1)))=some (.lst (vNats [pl.2.w,pl.2.d,pl.2.h])):=by
       have:=W3.obj (.sizes (m.parts.length - 1)) hL;rw [this];show some (HO.lst (vNats [(m.pt (m.parts.length - 1)).w,(m.pt (m.parts.length - 1)).d,(m.pt (m.parts.length - 1)).h]))=_;rw [hlp]
     have hrw:H3 (ad (.rows (m.parts.length - 1)))=some (.lst (vNats pl.2.rows)):=by
       have:=W3.obj (.rows (m.parts.length - 1)) hL;rw [this];show some (HO.lst (vNats (m.pt (m.parts.length - 1)).rows))=_;rw [hlp]
     refine tLc_range (lo:=0) (n:=3) (H1:=H3) (fun D i H'=>H3 D=none∧H'=upd H3 D (.lst ((([decide ((pl.2.w:Int) < x0+l0),decide ((pl.2.d:Int) < x1+l1),decide ((pl.2.h:Int) < x2+l2)]:List Bool).take i).map V.bl))) (fun R r=>?_) (fun D hD=>⟨hD,rfl⟩) ?_ ?_
     · push_cast [and_true];exact ⟨by decide,by decide,r⟩
     · rintro D i H' hi ⟨hD,rfl⟩;have hpa2:=(same_new (o:=.lst ((([decide ((pl.2.w:Int) < x0+l0),decide ((pl.2.d:Int) < x1+l1),decide ((pl.2.h:Int) < x2+l2)]:List Bool).take i).map V.bl)) hD) _ _ hpa;have hsz2:=(same_new (o:=.lst ((([decide ((pl.2.w:Int) < x0+l0),decide ((pl.2.d:Int) < x1+l1),decide ((pl.2.h:Int) < x2+l2)]:List Bool).take i).map V.bl)) hD) _ _ hsz;have hco4:=(same_new (o:=.lst ((([decide ((pl.2.w:Int) < x0+l0),decide ((pl.2.d:Int) < x1+l1),decide ((pl.2.h:Int) < x2+l2)]:List Bool).take i).map V.bl)) hD) _ _ hco3;have hle4:=(same_new (o:=.lst ((([decide ((pl.2.w:Int) < x0+l0),decide ((pl.2.d:Int) < x1+l1),decide ((pl.2.h:Int) < x2+l2)]:List Bool).take i).map V.bl)) hD) _ _ hle3;push_cast [hpa2,fP_sizes,TP.cl,TP.sizes]
       match i,hi with
       | 0,_=>exact ⟨_,SqL.of hco4,.int x0,rfl,_,SqL.of hle4,.int l0,rfl,x0,rfl,l0,rfl,_,SqL.of hsz2,.int pl.2.w,rfl,_,rfl,(by show (0:Nat) < sizeLine; decide),hD,rfl⟩
       | 1,_=>exact ⟨_,SqL.of hco4,.int x1,rfl,_,SqL.of hle4,.int l1,rfl,x1,rfl,l1,rfl,_,SqL.of hsz2,.int pl.2.d,rfl,_,rfl,(by show (1:Nat) < sizeLine; decide),hD,rfl⟩
       | 2,_=>exact ⟨_,SqL.of hco4,.int x2,rfl,_,SqL.of hle4,.int l2,rfl,x2,rfl,l2,rfl,_,SqL.of hsz2,.int pl.2.h,rfl,_,rfl,(by show (2:Nat) < sizeLine; decide),hD,rfl⟩
     · rintro D H' ⟨hD,rfl⟩;have S4:Same H3 (upd H3 D (.lst ([V.bl (decide ((pl.2.w:Int) < x0+l0)),V.bl (decide ((pl.2.d:Int) < x1+l1)),V.bl (decide ((pl.2.h:Int) < x2+l2))]))):=same_new hD
       have eany:(([decide ((pl.2.w:Int) < x0+l0),decide ((pl.2.d:Int) < x1+l1),decide ((pl.2.h:Int) < x2+l2)]:List Bool).any id)=pl.2.beyond [x0,x1,x2] [l0,l1,l2]:=by
         show (_ || (_ || (_ || false)))=(_ || (_ || _));rw [Bool.or_false];rfl
       refine ⟨D,[decide ((pl.2.w:Int) < x0+l0),decide ((pl.2.d:Int) < x1+l1),decide ((pl.2.h:Int) < x2+l2)],rfl,SqL.of upd_same,_,rfl,?_⟩;rw [eany]
       change Same H3 (upd H3 D (.lst ((([decide ((pl.2.w:Int) < x0+l0),decide ((pl.2.d:Int) < x1+l1),decide ((pl.2.h:Int) < x2+l2)]:List Bool).take 3).map V.bl))) at S4
       generalize upd H3 D (.lst ((([decide ((pl.2.w:Int) < x0+l0),decide ((pl.2.d:Int) < x1+l1),decide ((pl.2.h:Int) < x2+l2)]:List Bool).take 3).map V.bl))=H4 at S4 ⊢;have SH4:=S3.trans S4;cases hB:pl.2.beyond [x0,x1,x2] [l0,l1,l2];rotate_left
       · refine iteT (fail 4 ?_ H4 SH4);rw [eR0,if_pos hB]
       rw [if_neg (by rw [hB]; exact Bool.false_ne_true)] at eR0;have hpa4:=S4 _ _ hpa;refine iteF (unf ?_);push_cast [and_true];refine ⟨CP,_,_,hpa4,TP.cl,TP.cuts,_,fP_cuts,rfl,?_⟩;by_cases h64:pl.2.cuts=64
       · rw [if_pos (by rw [h64]; rfl)];refine fail 2 ?_ H4 SH4;rw [eR0,if_pos h64]
       rw [if_neg (by rw [decide_eq_true_eq,V.int.injEq]; omega)];refine unf ?_;rw [if_neg h64] at eR0;have W4:=W3.same S4;have n1:ad (.rows (m.parts.length - 1))≠ad (.sizes (m.parts.length - 1)):=W.ne hL hL (by simp);have n2:ad (.rows (m.parts.length - 1))≠ad (.part (m.parts.length - 1)):=W.ne hL hL (by simp);have n3:ad (.sizes (m.parts.length - 1))≠ad (.part (m.parts.length - 1)):=W.ne hL hL (by simp);have hp20':H p2=none:=S1.free hp20;have q1:ad (.rows (m.parts.length - 1))≠p:=W.ne_new hL hp0;have q2:ad (.rows (m.parts.length - 1))≠p2:=W.ne_new hL hp20';have q3:ad (.part (m.parts.length - 1))≠p:=W.ne_new hL hp0;have q4:ad (.part (m.parts.length - 1))≠p2:=W.ne_new hL hp20'
       have ePF:∀ z:Int,putF (Str.ofString "cuts") (V.int z) (fP (ad (.sizes (m.parts.length - 1))) pl.2.cuts (ad (.rows (m.parts.length - 1))))=fP (ad (.sizes (m.parts.length - 1))) z (ad (.rows (m.parts.length - 1))):=fun z=>by
         rw [putF_ne (by decide +kernel),putF_eq]
       obtain ⟨a0,a1,a2⟩:=hN3;obtain ⟨⟨b0,b0'⟩,⟨b1,b1'⟩,b2,b2'⟩:=hA3;obtain ⟨y0,rfl⟩:=Int.eq_ofNat_of_zero_le a0;obtain ⟨y1,rfl⟩:=Int.eq_ofNat_of_zero_le a1;obtain ⟨y2,rfl⟩:=Int.eq_ofNat_of_zero_le a2;obtain ⟨m0,rfl⟩:=Int.eq_ofNat_of_zero_le (show 0≤l0 by omega);obtain ⟨m1,rfl⟩:=Int.eq_ofNat_of_zero_le (show 0≤l1 by omega);obtain ⟨m2,rfl⟩:=Int.eq_ofNat_of_zero_le (show 0≤l2 by omega)
       have hB3:y0+m0≤pl.2.w∧y1+m1≤pl.2.d∧y2+m2≤pl.2.h:=by
         unfold MPart.beyond at hB;simp only [Bool.or_eq_false_iff,decide_eq_false_iff_not] at hB;obtain ⟨c0,c1,c2⟩:=hB
         change ¬ (pl.2.w:Int) < (y0:Int)+(m0:Int) at c0
         change ¬ (pl.2.d:Int) < (y1:Int)+(m1:Int) at c1
         change ¬ (pl.2.h:Int) < (y2:Int)+(m2:Int) at c2
         omega
       push_cast [sFldAug,rAdd];refine ⟨CP,_,_,hpa4,TP.cl,TP.cuts,_,fP_cuts,_,rfl,_,_,hpa4,(by show (3:Nat) < 1000; decide),?_⟩;rw [ePF];refine ⟨ad (.part (m.parts.length - 1)),dx (.part (m.parts.length - 1)),ad (.sizes (m.parts.length - 1)),ad (.rows (m.parts.length - 1)),p,p2,_,pl.2.w,pl.2.d,pl.2.h,y0,y1,y2,m0,m1,m2,pl.2.rows,rfl,upd_same,?_,?_,?_,?_,n1,q1,q2,Wp.len,by have:=Wp.w; omega,hB3.2.1,hB3.2.2,Wp.d.2,Wp.h.2,?_⟩
       · rw [upd_ne n3]; exact S4 _ _ hsz
       · rw [upd_ne n2]; exact S4 _ _ hrw
       · rw [upd_ne (Ne.symm q3)]; exact S4 _ _ hco3
       · rw [upd_ne (Ne.symm q4)]; exact S4 _ _ hle3
       · have ec:pl.2.cut [(y0:Int),(y1:Int),(y2:Int)] [(m0:Int),(m1:Int),(m2:Int)] = { pl.2 with cuts:=pl.2.cuts+1,rows:=cutAway pl.2.d pl.2.rows y0 y1 y2 m0 m1 m2 }:=rfl;rw [ec] at eR0;have WA:=W4.cutLast hgl { pl.2 with cuts:=pl.2.cuts+1,rows:=cutAway pl.2.d pl.2.rows y0 y1 y2 m0 m1 m2 } rfl rfl rfl;have e2:(((pl.2.cuts+1:Nat):Int))=(pl.2.cuts:Int)+1:=by omega
         have:=k _ ad dx rl (by rw [eR0]; exact WA) (by
           rw [eR0];refine ⟨fun b o e h=>?_,fun r h=>⟨(setLast_used hgl r).mpr h,rfl⟩,fun r h=>.inl ((setLast_used hgl r).mp h)⟩;rw [upd_ne (h (.rows (m.parts.length - 1)) hL),upd_ne (h (.part (m.parts.length - 1)) hL)];exact SH4 _ _ e)
         rw [eR0] at this;exact this
end
end Ho
end
section
set_option Elab.async false
set_option linter.all false
set_option maxRecDepth 100000
namespace Ho
open PySem hiding start
open PySem.Spec
open PyProof.Rows hiding St
open L2
noncomputable abbrev sPut:Stmt:=top 37
section
variable {P:Program} {w:World} {K:PySem.W.Frag} {mg:Str→Option Value} {base:Heap}
theorem scPut:FnScope ["work","words","corner","ways"] ["work","words"] (defScope sPut):=⟨rfl,rfl,rfl,by decide +kernel,rfl,by decide +kernel,by decide +kernel⟩
set_option maxHeartbeats 1000000 in
theorem ok_put {f CW CP CU aG:Addr} {fd:FuncData} (F:Fun K "read_put" "read_put" sPut f fd) (T:Txt K mg) (TR:TxtR K mg aG) (TW:TxtW K mg CW)
   (Cn:Cal P w K mg base 2 "read_numbers" ["words"] (spNumbers K)) (Ci:Cal P w K mg base 1 "is_name" ["word"] spIsName) (Ca:Cal P w K mg base 1 "all_within" ["numbers","least","most"] (spWithin K)) (Cw:Cal P w K mg base 2 "read_ways" ["word"] spWays) (Cp:Mkr P w K mg base CU "Put" ["self","part","ways","corner"] (spPutI CU)) :
   FnOk P w K mg base CX0 3 f fd ["work","words"] (spRead CW CP CU readPut):=by
 obtain ⟨gn,dn,Gn,bn,hn,kn⟩:=Cn.ex;obtain ⟨gi,di,Gi,bi,hi,ki⟩:=Ci.ex;obtain ⟨ga,da,Ga,ba,ha,ka⟩:=Ca.ex;obtain ⟨gw,dw,Gw,bw,hww,kw⟩:=Cw.ex;obtain ⟨gp,dp,Mp,Gp,bp,hp⟩:=Cp.ex;refine F.ok scPut (fun vs H Q E h=>?_) (fun cdv A outer s H vs Q E hr h=>?_)
 · obtain ⟨m,ad,dx,rl,wl,ws,rfl,_⟩:=h;rfl
 · obtain ⟨m,ad,dx,rl,wl,ws,rfl,W,Wf,hw,hne,hgw,k⟩:=h;have hu:=hu_of hr;have hr1:Room 1 _:=hr.mono (by decide)
   refine ⟨_,pss_k (ps_set (i:=2) scPut.nd rfl (Or.inl rfl) (pe_call Gn hr rfl hn kn bn .nil pass0 (pa_cons (pe_slice sl_list (pv 1) (po_some pe_int) (po_some pe_int)) pa_nil)))
     (pss_k (ps_if (PW.pt (pw_or (pt_cmpR op_ne (pe_callB call_len_seq (by rfl) T.len PySem.boot_len (pa_cons (pv 1) pa_nil)) pe_int (nomark _))
         (pw_or (pt_not (pt_val (pe_call Gi hr1 rfl hi ki bi .nil pass0 (pa_cons (pe_ix ix_list (pv 1) pe_int (fun _ _=>rfl)) pa_nil))))
         (pw_or1 (pt_not (pt_val (pe_call Ga hr1 rfl ha ka ba .nil pass0 (pa_cons (pv 2) (pa_cons pe_int (pa_cons (pe_gi TR.FC) pa_nil))))))))))
       (pss_one (ps_ret (pe_gi TR.NO))) pss_nil)
     (pss_k (ps_set (i:=3) scPut.nd rfl (Or.inl rfl) (pe_call Gw hr rfl hww kw bw .nil pass0 (pa_cons (pe_ix ix_list (pv 1) pe_int (fun _ _=>rfl)) pa_nil)))
     (pss_k (ps_if (pt_not (pt_truth (pv 3) (fun _=>rfl))) (pss_one (ps_ret (pe_gi TR.NO))) pss_nil)
     (pss_k (ps_if (pt_not (pt_truth (pe_fld (pv 0) rfl) (fun _=>rfl))) (pss_one (ps_ret (pe_gi TR.CS))) pss_nil)
     (pss_k (ps_if (pt_cmp (pc_dnotin hu (pe_ix ix_list (pv 1) pe_int (fun _ _=>rfl)) (pe_fld (pv 0) rfl))) (pss_one (ps_ret (pe_gi TR.CL))) pss_nil)
     (pss_k (ps_if (pt_cmpR op_eq (pe_callB call_len_seq (by rfl) T.len PySem.boot_len (pa_cons (pe_fld (pv 0) rfl) pa_nil)) (pe_gi TR.MU) (nomark _)) (pss_one (ps_ret (pe_gi TR.TM))) pss_nil)
     (pss_k (ps_expr (pe_bm PySem.F.plainAttrs_list PySem.F.slot_list_append PySem.F.type_list_append mt_append (pe_fld (pv 0) rfl) (pa_cons (pe_make Mp Gp hr rfl hp bp .nil pass0 (pa_cons (pe_dget hu (pe_fld (pv 0) rfl) (pe_ix ix_list (pv 1) pe_int (fun _ _=>rfl)) (fun _ _=>rfl)) (pa_cons (pv 3) (pa_cons (pv 2) pa_nil)))) pa_nil)))
     (pss_one (ps_ret (pe_gi TR.NF)))))))))),?_⟩
   have fail:∀ j:Int,readPut m (ws.map TL.tl)=(j,m)→∀ H',Same H H'→Q (.int j) H':=fun j e H' s'=>by
     have:=k H' ad dx rl (by rw [e]; exact W.same s') (by rw [e]; exact Go.same s');rw [e] at this;exact this
   push_cast [and_true];refine ⟨_,SqL.of hw,fun q hq=>⟨q,(ws.drop 3).take 3,rfl,SqL.of (by rw [upd_same,cut3 (a:=3) (b:=6) ws 3 rfl rfl]),by rw [List.length_take]; omega,fun x hx=>?_,fun p hp2=>?_⟩⟩
   · obtain ⟨h1,h2⟩:=hgw.ok x (List.mem_of_mem_drop (List.mem_of_mem_take hx));exact ⟨Nat.le_of_lt h1,h2⟩
   rw [num_map];have S1:Same H (upd (upd H q (.lst (cutV (vStrs ws) (some 3) (some 6)))) p (.lst (vInts (nums (ws.map TL.tl) 3)))):=(same_new hq).trans (same_new hp2);have hp0:H p=none:=(same_new hq).free hp2;have hco:=upd_same (H:=upd H q (.lst (cutV (vStrs ws) (some 3) (some 6)))) (a:=p) (o:=.lst (vInts (nums (ws.map TL.tl) 3)));generalize upd (upd H q (.lst (cutV (vStrs ws) (some 3) (some 6)))) p (.lst (vInts (nums (ws.map TL.tl) 3)))=H1 at S1 hco ⊢;refine unf ?_;push_cast [and_true];refine ⟨_,.inl (SqL.of (S1 _ _ hw)),?_⟩;rw [List.length_map];by_cases h6:ws.length=6;rotate_left
   · rw [if_pos (by rw [Bool.not_eq_true',decide_eq_false_iff_not]; omega)];refine fail 1 ?_ H1 S1;unfold readPut;rw [if_pos (.inl (by rw [List.length_map]; exact h6))]
   rw [if_neg (by rw [h6]; decide)];obtain ⟨w0,w1,w2,w3,w4,w5,rfl⟩:=len6 h6;obtain ⟨l1,g1⟩:=hgw.ok w1 (by simp);obtain ⟨l2,g2⟩:=hgw.ok w2 (by simp);refine ⟨_,SqL.of (S1 _ _ hw),.str w1,rfl,w1,rfl,Nat.le_of_lt l1,g1,_,rfl,?_⟩;cases hI:isName (TL.tl w1)
   · refine iteT (fail 1 ?_ H1 S1);unfold readPut;rw [if_pos (.inr (.inl hI))]
   refine iteF ⟨p,_,0,48,rfl,SqL.of hco,Nat.le_trans (nums_len _ _) (by decide),fun H2 s2=>⟨_,rfl,?_⟩⟩;have S2:Same H H2:=S1.trans s2;cases hA:allIn 0 48 (nums ([w0,w1,w2,w3,w4,w5].map TL.tl) 3)
   · refine iteT (fail 1 ?_ H2 S2);unfold readPut;rw [if_pos (.inr (.inr hA))]
   have hc:¬ (¬ ([w0,w1,w2,w3,w4,w5].map TL.tl).length=6∨isName (at_ ([w0,w1,w2,w3,w4,w5].map TL.tl) 1)=false∨allIn 0 48 (nums ([w0,w1,w2,w3,w4,w5].map TL.tl) 3)=false):=by
     rintro (h | h | h)
     · exact h rfl
     · rw [show at_ ([w0,w1,w2,w3,w4,w5].map TL.tl) 1=TL.tl w1 from rfl,hI] at h; cases h
     · rw [hA] at h; cases h
   refine iteF (unf ?_);push_cast [and_true];refine ⟨_,SqL.of (S2 _ _ hw),.str w2,rfl,w2,rfl,l2,g2,fun H3 wy s3 hwy0 hwy=>?_⟩;have S3:Same H H3:=S2.trans s3
   have eR0:readPut m ([w0,w1,w2,w3,w4,w5].map TL.tl)=(if readWays (TL.tl w2)=[] then (1,m) else if m.parts=[] then (3,m) else if m.knows (TL.tl w1)=false then (4,m) else if m.puts.length=32 then (2,m) else (0,m.addPut ⟨m.idx (TL.tl w1),readWays (TL.tl w2),nums ([w0,w1,w2,w3,w4,w5].map TL.tl) 3⟩)):=by
     unfold readPut;rw [if_neg hc];rfl
   refine unf ?_;push_cast [and_true];refine ⟨_,.inl ⟨_,SqL.of hwy,rfl⟩,?_⟩;by_cases hW:readWays (TL.tl w2)=[]
   · rw [hW];refine iteT (fail 1 ?_ H3 S3);rw [eR0,if_pos hW]
   rw [if_neg hW] at eR0
   rw [if_neg (by
     cases h:readWays (TL.tl w2) with
     | nil=>exact absurd h hW
     | cons a r=>simp)]
   have W3:=W.same S3;have hwk:H3 (ad .work)=some (.ins CW (dx .work) (fW (ad .dict) (latestV m ad) (ad .puts) (ad .cells) (ad .refu))):=W3.obj .work trivial;have hdc:H3 (ad .dict)=some (.dK (dictF ad 0 m.parts)):=W3.obj .dict trivial;have hpt:H3 (ad .puts)=some (.lst ((List.range m.puts.length).map fun k=>V.ref (ad (.put k)))):=W3.obj .puts trivial;refine unf ?_;push_cast [hwk,fW_puts,fW_parts,TW.cl,TW.puts,TW.parts];refine ⟨_,.inr (.inr ⟨_,hdc,rfl⟩),?_⟩;by_cases hP:m.parts=[]
   · rw [hP];refine iteT (fail 3 ?_ H3 S3);rw [eR0,if_pos hP]
   rw [if_neg hP] at eR0
   rw [if_neg (by
     cases h:m.parts with
     | nil=>exact absurd h hP
     | cons a r=>simp [dictF])]
   refine unf ?_;push_cast [hwk,fW_puts,fW_parts,TW.cl,TW.puts,TW.parts];refine ⟨_,SqL.of (S3 _ _ hw),.str w1,rfl,_,DGet.k (k:=Sum.inr (mkS (TL.tl w1))) hdc,?_⟩;rw [dictF_val,Nat.zero_add];have hkn:m.knows (TL.tl w1)=m.parts.any fun p=>p.1 == TL.tl w1:=rfl;cases hK:m.parts.any fun p=>p.1 == TL.tl w1
   · rw [if_neg Bool.false_ne_true];refine iteT (fail 4 ?_ H3 S3);rw [eR0,if_pos (hkn.trans hK)]
   rw [if_neg (by rw [hkn,hK]; exact fun h=>(by cases h))] at eR0;rw [if_pos rfl];refine iteF (unf ?_);push_cast [hwk,fW_puts,fW_parts,TW.cl,TW.puts,TW.parts];refine ⟨_,.inl (SqL.of hpt),?_⟩;rw [List.length_map,List.length_range];by_cases h32:m.puts.length=32
   · rw [if_pos (by rw [h32]; rfl)];refine fail 2 ?_ H3 S3;rw [eR0,if_pos h32]
   rw [if_neg (by rw [decide_eq_true_eq]; omega)];rw [if_neg h32] at eR0
   have hidx:m.idx (TL.tl w1) < m.parts.length:=by
     unfold MW.idx;rw [List.findIdx_lt_length];obtain ⟨z,hz,hz2⟩:=List.any_eq_true.mp hK;exact ⟨z,hz,hz2⟩
   have hval:valV (dictF ad 0 m.parts) (Sum.inr (mkS (TL.tl w1)))=some (.ref (ad (.part (m.idx (TL.tl w1))))):=by
     rw [dictF_val,Nat.zero_add,hK,if_pos rfl];rfl
   have hdg:DGet H3 (ad .dict) (.str w1) (some (.ref (ad (.part (m.idx (TL.tl w1)))))):=by
     rw [← hval];exact DGet.k (k:=Sum.inr (mkS (TL.tl w1))) hdc
   refine unf ?_;push_cast [hwk,fW_puts,fW_parts,TW.cl,TW.puts,TW.parts];refine ⟨.inl ⟨rfl,_,SqL.of hpt⟩,_,SqL.of (S3 _ _ hw),.str w1,rfl,_,hdg,fun x dx0 hx hdx hne0=>?_⟩;refine ⟨x,dx0,ad (.part (m.idx (TL.tl w1))),wy,p,rfl,upd_same,rfl,?_⟩;rw [upd_upd];have hx0:H x=none:=S3.free hx;have hd0:H dx0=none:=S3.free hdx;have hwy0':H wy=none:=S2.free hwy0;have hpx:ad .puts≠x:=W.ne_new trivial hx0;have hpd:ad .puts≠dx0:=W.ne_new trivial hd0;have hpw:ad .puts≠wy:=W.ne_new trivial hwy0';have hpp:ad .puts≠p:=W.ne_new trivial hp0;have hco3:=s3 _ _ (s2 _ _ hco);have hxw:x≠wy:=Ne.symm (ne_of_none hwy hx);have hxp:x≠p:=Ne.symm (ne_of_none hco3 hx);have hdw:dx0≠wy:=Ne.symm (ne_of_none hwy hdx);have hdp:dx0≠p:=Ne.symm (ne_of_none hco3 hdx);have hwp:wy≠p:=Ne.symm (ne_of_none (s2 _ _ hco) hwy0);refine ⟨_,by rw [upd_ne hpx,upd_ne hpd]; exact hpt,by rw [List.length_map,List.length_range]; exact Nat.lt_of_le_of_lt Wf.nu (by decide),?_⟩
   obtain ⟨ad',dx',rl',WA,GO⟩:=W.newPut (H':=upd (upd (upd H3 dx0 (.own x)) x (.ins CU dx0 (fU (ad (.part (m.idx (TL.tl w1)))) wy p))) (ad .puts) (.lst (((List.range m.puts.length).map fun k=>V.ref (ad (.put k)))++[V.ref x]))) (x:=x) (wy:=wy) (co:=p) (dx0:=dx0)
     ⟨m.idx (TL.tl w1),readWays (TL.tl w2),nums ([w0,w1,w2,w3,w4,w5].map TL.tl) 3⟩ hidx hx0 hwy0' hp0 hxw hxp hwp
     (by rw [upd_ne (Ne.symm hpx),upd_same])
     (by rw [upd_ne (Ne.symm hpw),upd_ne (Ne.symm hxw),upd_ne (Ne.symm hdw)]; exact hwy)
     (by rw [upd_ne (Ne.symm hpp),upd_ne (Ne.symm hxp),upd_ne (Ne.symm hdp)]; exact hco3)
     upd_same
     (fun b o e h1=>by rw [upd_ne h1,upd_ne (ne_of_none e hx0),upd_ne (ne_of_none e hd0)]; exact S3 _ _ e)
   have:=k _ ad' dx' rl' (by rw [eR0]; exact WA) (by rw [eR0]; exact GO);rw [eR0] at this;exact this
end
end Ho
end
section
set_option Elab.async false
set_option linter.all false
set_option maxRecDepth 100000
namespace Ho
open PySem hiding start
open PySem.Spec
open PyProof.Rows hiding St
open L2
noncomputable abbrev sLine:Stmt:=top 38
noncomputable abbrev sLines:Stmt:=top 39
theorem cutN_sub (c:Nat):∀ (l:Cs) (w:Cs),w∈cutN c l→w.length≤l.length∧∀ y∈w,y∈l
 | [],w,h=>by
   simp [cutN] at h;subst h
   exact ⟨Nat.le_refl _,fun y hy=>hy⟩
 | x :: r,w,h=>by
   by_cases hx:x=c
   · subst hx;rw [cutN_hit] at h;rcases List.mem_cons.mp h with e | e
     · subst e;exact ⟨Nat.zero_le _,fun y hy=>(by cases hy)⟩
     · obtain ⟨h1,h2⟩:=cutN_sub x r w e;exact ⟨by rw [List.length_cons]; omega,fun y hy=>List.mem_cons_of_mem _ (h2 y hy)⟩
   · rw [cutN_miss hx] at h
     cases hc:cutN c r with
     | nil=>exact absurd hc (cutN_ne c r)
     | cons a t =>
       rw [hc] at h;rcases List.mem_cons.mp h with e | e
       · subst e;obtain ⟨h1,h2⟩:=cutN_sub c r a (by rw [hc]; simp);refine ⟨by rw [List.length_cons,List.length_cons]; omega,fun y hy=>?_⟩;rcases List.mem_cons.mp hy with e | e
         · rw [e]; simp
         · exact List.mem_cons_of_mem _ (h2 y e)
       · obtain ⟨h1,h2⟩:=cutN_sub c r w (by rw [hc]; exact List.mem_cons_of_mem _ e);exact ⟨by rw [List.length_cons]; omega,fun y hy=>List.mem_cons_of_mem _ (h2 y hy)⟩
theorem cutN_len (c:Nat):∀ l:Cs,(cutN c l).length≤l.length+1
 | []=>by simp [cutN]
 | x :: r=>by
   have ih:=cutN_len c r;by_cases hx:x=c
   · subst hx;rw [cutN_hit,List.length_cons,List.length_cons];omega
   · rw [cutN_miss hx]
     cases hc:cutN c r with
     | nil=>simp
     | cons a t =>
       rw [hc] at ih;rw [List.length_cons] at ih ⊢;rw [List.length_cons];omega
section
variable {P:Program} {w:World} {K:PySem.W.Frag} {mg:Str→Option Value} {base:Heap}
theorem scLine:FnScope ["work","line","words"] ["work","line"] (defScope sLine):=⟨rfl,rfl,rfl,by decide +kernel,rfl,by decide +kernel,by decide +kernel⟩
inductive SpLine (CW CP CU:Addr) (vs:List V) (H:Hp) (Q:VK):Prop
 | mk (m:MW) (ad dx:Ad) (rl:Addr→Role) (x:Str) (h0:vs=[.ref (ad .work),.str x]) (h1:WAt CW CP CU H m ad dx rl) (h2:m.Wf) (h3:x.length≤65600) (h4:GS x) (h5:∀ (H':Hp) (ad' dx':Ad) (rl':Addr→Role),WAt CW CP CU H' (readLine m (TL.tl x)).2 ad' dx' rl'→Go H m ad H' (readLine m (TL.tl x)).2 ad'→Q (.int (readLine m (TL.tl x)).1) H'):SpLine CW CP CU vs H Q
noncomputable def spLine (CW CP CU:Addr):Sp:=fun vs H Q _=>SpLine CW CP CU vs H Q
theorem gw_of {x:Str} {ws:List Str} (hl:x.length≤65600) (hg:GS x) (e:ws.map TL.tl=cutN 32 (TL.tl x)):GW ws:=by
 have hx:=TL.len_tl x;refine ⟨?_,fun y hy=>?_⟩
 · have h1:=cutN_len 32 (TL.tl x);have h2:=congrArg List.length e;rw [List.length_map] at h2;omega
 · have hm:TL.tl y∈cutN 32 (TL.tl x):=by rw [← e]; exact List.mem_map_of_mem hy
   obtain ⟨h1,h2⟩:=cutN_sub 32 _ _ hm;have:sizeLine=16777216:=sizeLine_eq;exact ⟨by rw [TL.len_tl y]; omega,fun c hc=>hg c (h2 c hc)⟩
theorem ok_line {f CW CP CU aG:Addr} {fd:FuncData} (F:Fun K "read_line" "read_line" sLine f fd) (TR:TxtR K mg aG)
   (C1:Cal P w K mg base 3 "read_part" ["work","words"] (spRead CW CP CU readPart)) (C2:Cal P w K mg base 3 "read_cut" ["work","words"] (spRead CW CP CU readCut)) (C3:Cal P w K mg base 3 "read_put" ["work","words"] (spRead CW CP CU readPut)) :
   FnOk P w K mg base CX0 4 f fd ["work","line"] (spLine CW CP CU):=by
 obtain ⟨g1,d1,G1,b1,h1,k1⟩:=C1.ex;obtain ⟨g2,d2,G2,b2,h2,k2⟩:=C2.ex;obtain ⟨g3,d3,G3,b3,h3,k3⟩:=C3.ex;refine F.ok scLine (fun vs H Q E h=>?_) (fun cdv A outer s H vs Q E hr h=>?_)
 · obtain ⟨m,ad,dx,rl,x,rfl,_⟩:=h;rfl
 · obtain ⟨m,ad,dx,rl,x,rfl,W,Wf,hl,hg,k⟩:=h
   refine ⟨_,pss_cons (ps_set (i:=2) scLine.nd rfl (Or.inl rfl) (pe_split (pv 1) pe_str))
     (pss_cons (ps_if (pt_cmpR op_eq (pe_ix ix_list (pv 2) pe_int (fun _ _=>rfl)) pe_str (nomark _)) (pss_one (ps_ret (pe_call G1 hr rfl h1 k1 b1 .nil pass0 (pa_cons (pv 0) (pa_cons (pv 2) pa_nil))))) pss_nil)
     (pss_cons (ps_if (pt_cmpR op_eq (pe_ix ix_list (pv 2) pe_int (fun _ _=>rfl)) pe_str (nomark _)) (pss_one (ps_ret (pe_call G2 hr rfl h2 k2 b2 .nil pass0 (pa_cons (pv 0) (pa_cons (pv 2) pa_nil))))) pss_nil)
     (pss_cons (ps_if (pt_cmpR op_eq (pe_ix ix_list (pv 2) pe_int (fun _ _=>rfl)) pe_str (nomark _)) (pss_one (ps_ret (pe_call G3 hr rfl h3 k3 b3 .nil pass0 (pa_cons (pv 0) (pa_cons (pv 2) pa_nil))))) pss_nil)
     (pss_one (ps_ret (pe_gi TR.NO)))))),?_⟩
   push_cast [rNewStrs];have hsl:sizeLine=16777216:=sizeLine_eq;refine ⟨by decide,by omega,fun wl hwl=>?_⟩;have ew:(PySem.Txt.split x (Str.ofString " ")).map TL.tl=cutN 32 (TL.tl x):=split_cut (c:=32) ((TL.tl_ofString _).trans (by decide)) (by decide);generalize hws:PySem.Txt.split x (Str.ofString " ")=ws at ew ⊢;have hgw:=gw_of hl hg ew;have S1:Same H (upd H wl (.lst (ws.map V.str))):=same_new hwl;have hw:=upd_same (H:=H) (a:=wl) (o:=.lst (ws.map V.str));generalize upd H wl (.lst (ws.map V.str))=H1 at S1 hw ⊢;have W1:=W.same S1;have hne:ws≠[]:=fun e=>by rw [e] at ew; exact cutN_ne _ _ ew.symm
   obtain ⟨w0,wr,hw0⟩:∃ w0 wr,ws=w0 :: wr:=by
     cases ws with
     | nil=>exact absurd rfl hne
     | cons a r=>exact ⟨a,r,rfl⟩
   have hat:at_ (cutN 32 (TL.tl x)) 0=TL.tl w0:=by rw [← ew,hw0]; rfl
   have eL:readLine m (TL.tl x)=if TL.tl w0=wP then readPart m (ws.map TL.tl) else if TL.tl w0=wC then readCut m (ws.map TL.tl) else if TL.tl w0=wU then readPut m (ws.map TL.tl) else (1,m):=by
     rw [ew,← hat];rfl
   rw [eL] at k
   have go:∀ (rd:MW→List Cs→Int × MW),(∀ (H':Hp) (ad' dx':Ad) (rl':Addr→Role),WAt CW CP CU H' (rd m (ws.map TL.tl)).2 ad' dx' rl'→Go H m ad H' (rd m (ws.map TL.tl)).2 ad'→Q (.int (rd m (ws.map TL.tl)).1) H')→spRead CW CP CU rd [V.ref (ad .work),V.ref wl] H1 Q E0:=fun rd kk =>
     ⟨m,ad,dx,rl,wl,ws,rfl,W1,Wf,hw,hne,hgw,fun H' ad' dx' rl' WA GO=>kk H' ad' dx' rl' WA (Go.trans W1 (Go.same S1) GO)⟩
   have eq0:∀ (s:String) (l:Cs),s.toList.map Char.toNat=l→decide (V.str w0=V.str (Str.ofString s))=decide (TL.tl w0=l):=fun s l e=>by
     rw [decide_eq_decide,V.str.injEq];constructor
     · intro h;rw [h,TL.tl_ofString,e]
     · intro h;exact TL.ext_tl (by rw [h,TL.tl_ofString,e])
   refine ⟨_,SqL.of hw,.str w0,by rw [hw0]; exact atI_nat (j:=0) rfl,rfl,?_⟩;rw [eq0 "part" wP (by decide)];by_cases q1:TL.tl w0=wP
   · rw [if_pos (decide_eq_true q1)];simp only [if_pos q1] at k;exact go _ k
   rw [if_neg (by rw [decide_eq_true_eq]; exact q1)];simp only [if_neg q1] at k;refine ⟨_,SqL.of hw,.str w0,by rw [hw0]; exact atI_nat (j:=0) rfl,rfl,?_⟩;rw [eq0 "cut" wC (by decide)];by_cases q2:TL.tl w0=wC
   · rw [if_pos (decide_eq_true q2)];simp only [if_pos q2] at k;exact go _ k
   rw [if_neg (by rw [decide_eq_true_eq]; exact q2)];simp only [if_neg q2] at k;refine ⟨_,SqL.of hw,.str w0,by rw [hw0]; exact atI_nat (j:=0) rfl,rfl,?_⟩;rw [eq0 "put" wU (by decide)];by_cases q3:TL.tl w0=wU
   · rw [if_pos (decide_eq_true q3)];simp only [if_pos q3] at k;exact go _ k
   rw [if_neg (by rw [decide_eq_true_eq]; exact q3)];simp only [if_neg q3] at k;exact k H1 ad dx rl W1 (Go.same S1)
theorem Go.free {CW CP CU:Addr} {H H':Hp} {m m':MW} {ad ad' dx':Ad} {rl':Addr→Role} (W:WAt CW CP CU H' m' ad' dx' rl') (g:Go H m ad H' m' ad') {q:Addr} (h:H' q=none):H q=none:=by
 cases e:H q with
 | none=>rfl
 | some o =>
   by_cases hc:∀ r,used m r→q≠ad r
   · rw [g.keep q o e hc] at h;cases h
   · obtain ⟨r,h'⟩:=Classical.not_forall.mp hc;obtain ⟨u1,u2⟩:=Classical.not_imp.mp h';have u2:=Classical.not_not.mp u2;rw [u2,← (g.old r u1).2,W.obj r (g.old r u1).1] at h;cases h
theorem scLines:FnScope ["work","text","lines","rest","number","line","why"] ["work","text"] (defScope sLines):=⟨rfl,rfl,rfl,by decide +kernel,rfl,by decide +kernel,by decide +kernel⟩
noncomputable def codes (ns:List Int):Cs:=ns.map fun n=>sg n.toNat
inductive SpLines (K:PySem.W.Frag) (CW CP CU:Addr) (vs:List V) (H:Hp) (Q:VK):Prop
 | mk (ad dx:Ad) (rl:Addr→Role) (a:Addr) (ns:List Int) (h0:vs=[.ref (ad .work),.ref a]) (h1:WAt CW CP CU H MW.none ad dx rl) (h2:SqL K H a (vInts ns)) (h3:ns.length≤65600) (h4:(∀ n∈ns,0≤n∧n≤255)) (h5:∀ (H':Hp) (ad' dx':Ad) (rl':Addr→Role) (p:Addr),WAt CW CP CU H' (readText (codes ns)).1 ad' dx' rl'→(readText (codes ns)).1.Wf→Go H MW.none ad H' (readText (codes ns)).1 ad'→H p=none→H' p=some (.lst (vInts (readText (codes ns)).2))→(∀ r,used (readText (codes ns)).1 r→ad' r≠p)→Q (.ref p) H'):SpLines K CW CP CU vs H Q
noncomputable def spLines (K:PySem.W.Frag) (CW CP CU:Addr):Sp:=fun vs H Q _=>SpLines K CW CP CU vs H Q
set_option maxHeartbeats 1000000 in
theorem ok_lines {f CW CP CU aG:Addr} {fd:FuncData} (F:Fun K "read_lines" "read_lines" sLines f fd) (T:Txt K mg) (TR:TxtR K mg aG)
   (C1:Cal P w K mg base 1 "split_lines" ["text"] (spSplit K)) (C2:Cal P w K mg base 4 "read_line" ["work","line"] (spLine CW CP CU)) :
   FnOk P w K mg base CX0 5 f fd ["work","text"] (spLines K CW CP CU):=by
 obtain ⟨g1,d1,G1,b1,h1,k1⟩:=C1.ex;obtain ⟨g2,d2,G2,b2,h2,k2⟩:=C2.ex;refine F.ok scLines (fun vs H Q E h=>?_) (fun cdv A outer s H vs Q E hr h=>?_)
 · obtain ⟨ad,dx,rl,a,ns,rfl,_⟩:=h;rfl
 · obtain ⟨ad,dx,rl,a,ns,rfl,W,hs,hl,hb,k⟩:=h;have hr1:Room 1 _:=hr.mono (by decide)
   refine ⟨_,pss_k (ps_set (i:=2) scLines.nd rfl (Or.inl rfl) (pe_call G1 hr1 rfl h1 k1 b1 .nil pass0 (pa_cons (pv 1) pa_nil)))
     (pss_cons (ps_set (i:=3) scLines.nd rfl (Or.inl rfl) (pe_bm0 PySem.F.plainAttrs_list PySem.F.slot_list_pop PySem.F.type_list_pop mt_pop (pv 2)))
     (pss_k (ps_for PassesOwn.never rfl (pi_enum rfl TR.enum (pa_cons (pv 2) pa_nil)) (pg_tup (n:=2) rfl (pgs_cons (pg_name (i:=4) scLines.nd rfl (Or.inl rfl)) (pgs_cons (pg_name (i:=5) scLines.nd rfl (Or.inl rfl)) pgs_nil)))
       (pss_k (ps_set (i:=6) scLines.nd rfl (Or.inl rfl) (pe_call G2 hr rfl h2 k2 b2 .nil pass0 (pa_cons (pv 0) (pa_cons (pv 5) pa_nil))))
       (pss_one (ps_if (pt_cmpR op_ne (pv 6) (pe_gi TR.NF) (nomark _)) (pss_one (ps_ret (pe_lst (pa_cons (pv 4) (pa_cons (pv 6) pa_nil))))) pss_nil))))
     (pss_cons (ps_if (pt_cmpR op_ne (pv 3) pe_str (nomark _)) (pss_one (ps_ret (pe_lst (pa_cons (pe_callB call_len_seq (by rfl) T.len PySem.boot_len (pa_cons (pv 2) pa_nil)) (pa_cons (pe_gi TR.NO) pa_nil))))) pss_nil)
     (pss_one (ps_ret (pe_lst pa_nil)))))),?_⟩
   push_cast [and_true];refine ⟨a,ns,rfl,hs,hl,hb,fun H1 p ls S1 hp0 hp1 els=>?_⟩;have hsl:sizeLine=16777216:=sizeLine_eq;have els:ls.map TL.tl=cutN 10 (codes ns):=els;have hne:ls≠[]:=fun e=>by rw [e] at els; exact cutN_ne _ _ els.symm
   obtain ⟨L,rest,rfl⟩:∃ L rest,ls=L++[rest]:=⟨ls.dropLast,ls.getLast hne,(List.dropLast_concat_getLast hne).symm⟩;have elen:(codes ns).length=ns.length:=by unfold codes; rw [List.length_map]
   have hLn:L.length≤65600:=by
     have h1:=cutN_len 10 (codes ns);rw [← els,List.length_map,List.length_append,List.length_singleton] at h1;omega
   have gs:∀ x∈L++[rest],x.length≤65600∧GS x:=fun x hx=>by
     have hm:TL.tl x∈cutN 10 (codes ns):=by rw [← els]; exact List.mem_map_of_mem hx
     obtain ⟨h1,h2⟩:=cutN_sub 10 _ _ hm;refine ⟨by rw [TL.len_tl x]; omega,fun c hc=>?_⟩;have:=h2 c hc;unfold codes at this;obtain ⟨n,_,rfl⟩:=List.mem_map.mp this;unfold Gd sg;by_cases ho:okc n.toNat=true
     · rw [if_pos ho]; exact .inl ho
     · rw [if_neg ho]; exact .inr rfl
   have eD:(cutN 10 (codes ns)).dropLast=L.map TL.tl:=by rw [← els,List.map_append,List.map_cons,List.map_nil,List.dropLast_concat]
   have eG:(cutN 10 (codes ns)).getLastD []=TL.tl rest:=by
     rw [← els,List.map_append,List.map_cons,List.map_nil,List.getLastD_concat]
   have eT:readText (codes ns)=(if (readAll 0 .none (L.map TL.tl)).2≠[] then readAll 0 .none (L.map TL.tl) else if TL.tl rest≠[] then ((readAll 0 .none (L.map TL.tl)).1,[((L.map TL.tl).length:Int),1]) else readAll 0 .none (L.map TL.tl)):=by
     unfold readText;simp only;rw [eD,eG]
   refine unf ?_;push_cast [and_true];refine ⟨.inl ⟨rfl,_,SqL.of hp1⟩,_,hp1,.str rest,by rw [List.length_map,List.length_append,List.length_singleton,Nat.add_sub_cancel,List.getElem?_map,List.getElem?_append_right (Nat.le_refl _),Nat.sub_self]; rfl,?_⟩;rw [show (vStrs (L++[rest])).dropLast=vStrs L by rw [vStrs,List.map_append,List.map_cons,List.map_nil,List.dropLast_concat]];have hps:∀ r,used MW.none r→ad r≠p:=fun r h=>W.ne_new h hp0
   have S2:∀ b o,H b=some o→upd H1 p (.lst (vStrs L)) b=some o:=fun b o e=>by
     rw [upd_ne (ne_of_none e hp0)];exact S1 _ _ e
   have W2:WAt CW CP CU (upd H1 p (.lst (vStrs L))) .none ad dx rl:=W.same S2;have hq:=upd_same (H:=H1) (a:=p) (o:=.lst (vStrs L));have S2':Same H (upd H1 p (.lst (vStrs L))):=S2;clear S2;generalize upd H1 p (.lst (vStrs L))=H2 at W2 hq S2' ⊢;refine tFor_enumE (K:=K) (a:=p) (xs:=vStrs L) (H1:=H2) (fun i σ H'=>∃ (v4 v5 v6:Option V) (mi:MW) (adi dxi:Ad) (rli:Addr→Role),σ=[some (V.ref (ad .work)),some (V.ref a),some (V.ref p),some (V.str rest),v4,v5,v6]∧readAll 0 .none ((L.map TL.tl).take i)=(mi,[])∧mi.Wf∧WAt CW CP CU H' mi adi dxi rli∧Go H .none ad H' mi adi∧H' p=some (.lst (vStrs L))∧(∀ r,used mi r→adi r≠p)) (fun R r=>?_) (SqL.of hq) ⟨none,none,none,.none,ad,dx,rl,rfl,by rw [List.take_zero]; rfl,MW.Wf.none,W2,Go.same S2',hq,hps⟩ ?_ ?_
   · push_cast [and_true];exact ⟨_,SqL.of hq,r⟩
   · rintro i xv σ H' tA E hx ⟨v4,v5,v6,mi,adi,dxi,rli,rfl,e1,Wfi,Wi,Gi,hpi,nei⟩ hT hE _ hRt;rw [List.getElem?_map] at hx;obtain ⟨x,hx2,rfl⟩:=Option.map_eq_some_iff.mp hx;obtain ⟨xl,xg⟩:=gs x (List.mem_append_left _ (List.mem_of_getElem? hx2));have ew:adi .work=ad .work:=(Gi.old .work trivial).2;push_cast [and_true];refine ⟨_,SqT.of upd_same,rfl,_,_,rfl,_,_,rfl,rfl,?_⟩;have S3:Same H' (upd H' tA (.tup [V.int (i:Int),V.str x])):=same_new hT;refine ⟨mi,adi,dxi,rli,x,by rw [ew],Wi.same S3,Wfi,xl,xg,fun H3 ad3 dx3 rl3 W3 G3=>?_⟩;have G3':=Go.trans (Wi.same S3) (Go.same (m:=mi) (ad:=adi) S3) G3;have G4:Go H .none ad H3 _ ad3:=Go.trans Wi Gi G3';have Wf3:(readLine mi (TL.tl x)).2.Wf:=readLine_wf Wfi;have hp3:H3 p=some (.lst (vStrs L)):=G3'.keep p _ hpi fun r h=>Ne.symm (nei r h)
     have ne3:∀ r,used (readLine mi (TL.tl x)).2 r→ad3 r≠p:=fun r h=>by
       rcases G3'.new r h with h2 | h2
       · rw [(G3'.old r h2).2];exact nei r h2
       · exact Ne.symm (ne_of_none hpi h2)
     have hxl:(L.map TL.tl)[i]? = some (TL.tl x):=by rw [List.getElem?_map,hx2]; rfl
     have hil:i < (L.map TL.tl).length:=(List.getElem?_eq_some_iff.mp hxl).1;have etk:(L.map TL.tl).take (i+1)=(L.map TL.tl).take i++[TL.tl x]:=by rw [List.take_succ,hxl]; rfl
     have tkl:((L.map TL.tl).take i).length=i:=by rw [List.length_take]; omega
     refine unf ?_;push_cast [and_true];by_cases h0:(readLine mi (TL.tl x)).1=0
     · rw [h0];refine iteF (hE _ _ (SqL.of hp3) ⟨_,_,_,_,_,_,_,rfl,?_,Wf3,W3,G4,hp3,ne3⟩);rw [etk,readAll_app _ _ _ _ _ e1,readAll_cons,if_neg (fun h=>h h0)];rfl
     · rw [if_pos (by rw [Bool.not_eq_true',decide_eq_false_iff_not]; exact h0)];rw [hRt];refine ⟨by decide,fun q hq=>?_⟩
       have eall:readAll 0 .none (L.map TL.tl)=((readLine mi (TL.tl x)).2,[(i:Int),(readLine mi (TL.tl x)).1]):=by
         have e3:L.map TL.tl=(L.map TL.tl).take i++(TL.tl x :: (L.map TL.tl).drop (i+1)):=by
           obtain ⟨_,e4⟩:=List.getElem?_eq_some_iff.mp hxl;rw [← e4,List.getElem_cons_drop,List.take_append_drop]
         rw [e3,readAll_app _ _ _ _ _ e1,readAll_cons,if_pos h0,tkl,Nat.zero_add]
       have eF:readText (codes ns)=((readLine mi (TL.tl x)).2,[(i:Int),(readLine mi (TL.tl x)).1]):=by
         rw [eT,eall];simp
       have S5:Same H3 (upd H3 q (.lst [V.int (i:Int),V.int (readLine mi (TL.tl x)).1])):=same_new hq;exact k _ ad3 dx3 rl3 q (by rw [eF]; exact W3.same S5) (by rw [eF]; exact Wf3) (by rw [eF]; exact Go.trans W3 G4 (Go.same S5)) (Go.free W3 G4 hq) (by rw [eF]; exact upd_same) (by rw [eF]; exact fun r h=>W3.ne_new h hq)
   · rintro σ H' ⟨v4,v5,v6,mi,adi,dxi,rli,rfl,e1,Wfi,Wi,Gi,hpi,nei⟩;rw [List.length_map,← List.length_map (f:=TL.tl),List.take_length] at e1;dsimp only;refine unf ?_;push_cast [and_true];have e2:readAll 0 .none (L.map TL.tl)=(mi,[]):=e1
     have fin:∀ (l:List Int),readText (codes ns)=(mi,l)→∀ q,H' q=none→Q (V.ref q) (upd H' q (.lst (vInts l))):=fun l e q hq=>by
       have W':=Wi.same (same_new (o:=.lst (vInts l)) hq);refine k _ adi dxi rli q (by rw [e]; exact W') (by rw [e]; exact Wfi) (by rw [e]; exact Go.trans Wi Gi (Go.same (same_new hq))) (Go.free Wi Gi hq) (by rw [e]; exact upd_same) (by rw [e]; exact fun r h=>Wi.ne_new h hq)
     have hrest:(rest=Str.ofString "")↔TL.tl rest=[]:=by
       constructor
       · intro h; rw [h,TL.tl_ofString]; rfl
       · intro h; exact TL.ext_tl (by rw [h,TL.tl_ofString]; rfl)
     by_cases hR:TL.tl rest=[]
     · rw [decide_eq_true (hrest.mpr hR)];refine iteF ⟨Nat.zero_le _,fin [] ?_⟩;rw [eT,e2];simp [hR]
     · rw [decide_eq_false fun z=>hR (hrest.mp z)];refine iteT ⟨_,.inl (SqL.of hpi),by decide,fun q hq=>?_⟩;have:=fin [(L.length:Int),1] (by rw [eT,e2]; simp [hR]) q hq;rw [List.length_map];exact this
end
end Ho
end
section
set_option Elab.async false
set_option linter.all false
set_option maxRecDepth 100000
namespace Ho
open PySem hiding start
open PySem.Spec
open PyProof.Rows hiding St
open L2
noncomputable abbrev sCells:Stmt:=top 40
structure TxtS (K:PySem.W.Frag) (mg:Str→Option Value) (aS:Addr):Prop where
 ST:mg "STRIDES" = some (.ref aS)
 st:∀ H,SqT K H aS [.int 1,.int 64,.int 4096]
section
variable {P:Program} {w:World} {K:PySem.W.Frag} {mg:Str→Option Value} {base:Heap}
theorem scCells:FnScope ["put","sizes","start","steps","axis","way","stride","cells","number","row","row_start","x"] ["put"] (defScope sCells):=⟨rfl,rfl,rfl,by decide +kernel,rfl,by decide +kernel,by decide +kernel⟩
inductive SpCells (CP CU:Addr) (vs:List V) (H:Hp) (Q:VK):Prop
 | mk (u dxu pa dxp wy co sz rw:Addr) (p:MPart) (q:MPut) (n:Nat) (h0:vs=[.ref u]) (h1:H u=some (.ins CU dxu (fU pa wy co))) (h2:H pa=some (.ins CP dxp (fP sz p.cuts rw))) (h3:H sz=some (.lst (vNats [p.w,p.d,p.h]))) (h4:H rw=some (.lst (vNats p.rows))) (h5:H wy=some (.lst (vInts q.ways))) (h6:H co=some (.lst (vInts q.cor))) (h7:p.Wf) (h8:q.Wf n) (h9:∀ (H':Hp) (l:Addr),Same H H'→H l=none→H' l=some (.lst (vInts (putCells p q)))→Q (.ref l) H'):SpCells CP CU vs H Q
noncomputable def spCells (CP CU:Addr):Sp:=fun vs H Q _=>SpCells CP CU vs H Q
theorem stride_at {a:Nat} (h:a < 6):atI [V.int 1,V.int 64,V.int 4096] ((a:Int) / 2)=some (V.int (stride a)):=by
 revert h;exact below6 (P:=fun a=>atI [V.int 1,V.int 64,V.int 4096] ((a:Int) / 2)=some (V.int (stride a))) rfl rfl rfl rfl rfl rfl
theorem cor_at {a x y z:Nat} (h:a < 6):atI (vInts [(x:Int),(y:Int),(z:Int)]) ((a:Int) / 2)=some (V.int (([(x:Int),(y:Int),(z:Int)]).getD ((a:Int) / 2).toNat 0)):=by
 revert h;exact below6 (P:=fun a=>atI (vInts [(x:Int),(y:Int),(z:Int)]) ((a:Int) / 2)=some (V.int (([(x:Int),(y:Int),(z:Int)]).getD ((a:Int) / 2).toNat 0))) rfl rfl rfl rfl rfl rfl
theorem size_at {k w d h:Nat} (hk:k < 3):atI (vNats [w,d,h]) (k:Int)=some (V.int (([(w:Int),(d:Int),(h:Int)]).getD k 0)):=by
 match k,hk with
 | 0,_=>rfl
 | 1,_=>rfl
 | 2,_=>rfl
theorem rowsCells_snoc (w d:Nat) (st:Int) (sp:List Int) (row:Nat):∀ (l:List Nat) (n:Nat),rowsCells w d st sp n (l++[row])=rowsCells w d st sp n l++rowCells w (st+((n+l.length:Nat):Int) % (d:Int)*sp.getD 1 0+((n+l.length:Nat):Int) / (d:Int)*sp.getD 2 0) (sp.getD 0 0) row
 | [],n=>by
   show rowCells w _ _ row++[]=[]++rowCells w _ _ row;rw [List.append_nil,List.nil_append]
   rfl
 | a :: l,n=>by
   rw [List.cons_append];show rowCells w _ _ a++rowsCells w d st sp (n+1) (l++[row])=(rowCells w _ _ a++rowsCells w d st sp (n+1) l)++_;rw [rowsCells_snoc w d st sp row l (n+1),List.append_assoc,List.length_cons,show n+1+l.length=n+(l.length+1) by omega]
theorem rowCells_len (w:Nat) (b s:Int) (row:Nat):(rowCells w b s row).length≤w:=by
 unfold rowCells;rw [List.length_map];exact Nat.le_trans (List.length_filter_le _ _) (by rw [List.length_range]; exact Nat.le_refl _)
theorem rowsCells_len (w d:Nat) (st:Int) (sp:List Int):∀ (l:List Nat) (n:Nat),(rowsCells w d st sp n l).length≤l.length*w
 | [],n=>Nat.zero_le _
 | a :: l,n=>by
   show (rowCells w _ _ a++rowsCells w d st sp (n+1) l).length≤_;rw [List.length_append,List.length_cons,Nat.add_mul,Nat.one_mul];have h1:=rowCells_len w (st+(n:Int) % (d:Int)*sp.getD 1 0+(n:Int) / (d:Int)*sp.getD 2 0) (sp.getD 0 0) a;have h2:=rowsCells_len w d st sp l (n+1);omega
theorem stride_b (z:Int):-(2 ^ 64) < stride z∧stride z < 2 ^ 64:=by
 unfold stride;split
 · decide
 · split <;> decide
theorem startOf_cons (s cor:List Int) (v:Int) (r:List Int) (k:Nat) (st:Int) (sp:List Int):startOf s cor (v :: r) k st sp=if v % 2=0 then startOf s cor r (k+1) (st+cor.getD (v / 2).toNat 0*stride v) (sp++[stride v])
   else startOf s cor r (k+1) (st+cor.getD (v / 2).toNat 0*stride v+(s.getD k 0 - 1)*stride v) (sp++[-stride v]):=rfl
set_option maxHeartbeats 2000000 in
theorem ok_cells {f CP CU aS aG:Addr} {fd:FuncData} (F:Fun K "put_cells" "put_cells" sCells f fd) (TR:TxtR K mg aG) (TC:TxtC K mg) (TS:TxtS K mg aS) (TP:TxtP K mg CP) (TU:TxtU K mg CU):FnOk P w K mg base CX0 1 f fd ["put"] (spCells CP CU):=by
 refine F.ok scCells (fun vs H Q E h=>?_) (fun cdv A outer s H vs Q E hr h=>?_)
 · obtain ⟨u,dxu,pa,dxp,wy,co,sz,rw',p,q,n,rfl,_⟩:=h;rfl
 · obtain ⟨u,dxu,pa,dxp,wy,co,sz,rw',p,q,n,rfl,hu,hpa,hsz,hrw,hwy,hco,Wp,Wq,k⟩:=h
   refine ⟨_,pss_cons (ps_set (i:=1) scCells.nd rfl (Or.inl rfl) (pe_fld (pe_fld (pv 0) rfl) rfl))
     (pss_cons (ps_set (i:=2) scCells.nd rfl (Or.inl rfl) pe_int)
     (pss_cons (ps_set (i:=3) scCells.nd rfl (Or.inr rfl) (pe_lst pa_nil))
     (pss_k (ps_for PassesOwn.never rfl (pi_enum rfl TR.enum (pa_cons (pe_fld (pv 0) rfl) pa_nil)) (pg_tup (n:=2) rfl (pgs_cons (pg_name (i:=4) scCells.nd rfl (Or.inl rfl)) (pgs_cons (pg_name (i:=5) scCells.nd rfl (Or.inl rfl)) pgs_nil)))
       (pss_k (ps_set (i:=6) scCells.nd rfl (Or.inl rfl) (pe_ix ix_tup (pe_gr TS.ST) (pe_op op_fdiv (pv 5) pe_int) (fun _ _=>rfl)))
       (pss_k (ps_aug (i:=2) scCells.nd rfl (Or.inl rfl) (pe_op op_mul (pe_ix ix_list (pe_fld (pv 0) rfl) (pe_op op_fdiv (pv 5) pe_int) (fun _ _=>rfl)) (pv 6)) ip_add)
       (pss_one (ps_if (pt_cmpR op_eq (pe_op op_mod (pv 5) pe_int) pe_int (nomark _))
         (pss_one (ps_expr (pe_bm PySem.F.plainAttrs_list PySem.F.slot_list_append PySem.F.type_list_append mt_append (pv 3) (pa_cons (pv 6) pa_nil))))
         (pss_cons (ps_aug (i:=2) scCells.nd rfl (Or.inl rfl) (pe_op op_mul (pe_op op_sub (pe_ix ix_list (pv 1) (pv 4) (fun _ _=>rfl)) pe_int) (pv 6)) ip_add)
         (pss_one (ps_expr (pe_bm PySem.F.plainAttrs_list PySem.F.slot_list_append PySem.F.type_list_append mt_append (pv 3) (pa_cons (pe_un un_neg (pv 6)) pa_nil))))))))))
     (pss_cons (ps_set (i:=7) scCells.nd rfl (Or.inl rfl) (pe_lst pa_nil))
     (pss_k (ps_for PassesOwn.never rfl (pi_enum rfl TR.enum (pa_cons (pe_fld (pe_fld (pv 0) rfl) rfl) pa_nil)) (pg_tup (n:=2) rfl (pgs_cons (pg_name (i:=8) scCells.nd rfl (Or.inl rfl)) (pgs_cons (pg_name (i:=9) scCells.nd rfl (Or.inr rfl)) pgs_nil)))
       (pss_k (ps_set (i:=10) scCells.nd rfl (Or.inr rfl) (pe_op op_add (pe_op op_add (pv 2) (pe_op op_mul (pe_op op_mod (pv 8) (pe_ix ix_list (pv 1) pe_int (fun _ _=>rfl))) (pe_ix ix_list (pv 3) pe_int (fun _ _=>rfl)))) (pe_op op_mul (pe_op op_fdiv (pv 8) (pe_ix ix_list (pv 1) pe_int (fun _ _=>rfl))) (pe_ix ix_list (pv 3) pe_int (fun _ _=>rfl)))))
       (pss_one (ps_expr (pe_bm PySem.F.plainAttrs_list PySem.F.slot_list_extend PySem.F.type_list_extend mt_extend (pv 7) (pa_cons
         (pe_lc rfl scCells.nd (pi_range1 rfl TC.range (pa_cons (pe_ix ix_list (pv 1) pe_int (fun _ _=>rfl)) pa_nil)) (blkOk_by (show blkC ["put","sizes","start","steps","axis","way","stride","cells","number","row","row_start","x"] (defScope sCells) _ [("x",11)]=true from by decide +kernel)) (fun _ _ _ _ _=>pg_name (i:=11) scCells.nd rfl (Or.inl rfl))
           (fun _ _ _ _ _=>pts_one (pt_cmpR op_eq (pe_op op_and (pe_op op_shr (pv 9) (pv 11)) pe_int) pe_int (nomark _)))
           (fun _ _ _ _ _=>pe_op op_add (pv 10) (pe_op op_mul (pv 11) (pe_ix (r:=rIxL K) ix_list (pv 3) pe_int (fun _ _=>rfl))))) pa_nil))))))
     (pss_one (ps_ret (pv 7)))))))),?_⟩
   push_cast [hu,hpa,fU_part,fU_ways,fU_corner,fP_sizes,fP_rows,TU.cl,TU.part,TU.ways,TU.corner,TP.cl,TP.sizes,TP.rows];refine ⟨Nat.zero_le _,fun t ht=>?_⟩;have hsl:sizeLine=16777216:=sizeLine_eq;obtain ⟨a,b,ha,hb,hab,eW⟩:=Wq.ways;obtain ⟨cx,cy,cz,c1,c2,c3,eC⟩:=Wq.cor
   have hup:Jo.upOf a b < 6:=by
     have:=up_ok ⟨a,ha⟩ ⟨b,hb⟩ hab;exact (List.getElem?_eq_some_iff.mp this.1).1
   have hway:∀ z∈q.ways,∃ m:Nat,m < 6∧z=(m:Int):=fun z hz=>by
     rw [eW] at hz;simp at hz;rcases hz with h | h | h
     · exact ⟨a,ha,h⟩
     · exact ⟨b,hb,h⟩
     · exact ⟨_,hup,h⟩
   have hwl:q.ways.length=3:=by rw [eW]; rfl
   have S0:Same H (upd H t (.lst [])):=same_new ht;have ht0:=upd_same (H:=H) (a:=t) (o:=.lst []);generalize upd H t (.lst [])=H0 at S0 ht0 ⊢;refine tFor_enumE (K:=K) (a:=wy) (xs:=vInts q.ways) (H1:=H0) (fun i σ H'=>∃ (v4 v5 v6:Option V) (st:Int) (sp:List Int),σ=[some (V.ref u),some (V.ref sz),some (V.int st),some (V.ref t),v4,v5,v6,none,none,none,none,none]∧startOf [(p.w:Int),p.d,p.h] q.cor q.ways 0 0 []=startOf [(p.w:Int),p.d,p.h] q.cor (q.ways.drop i) i st sp∧sp.length=i∧Same H H'∧H' t=some (.lst (vInts sp))) (fun R r=>?_) (SqL.of (S0 _ _ hwy)) ⟨none,none,none,0,[],rfl,rfl,rfl,S0,ht0⟩ ?_ ?_
   · have hu0:=S0 _ _ hu;push_cast [hu0,fU_ways,TU.cl,TU.ways];exact ⟨_,SqL.of (S0 _ _ hwy),r⟩
   · rintro i xv σ H' T E hx ⟨v4,v5,v6,st,sp,rfl,e1,e2,s1,hst⟩ hT hE _ _;rw [List.getElem?_map] at hx;obtain ⟨z,hz,rfl⟩:=Option.map_eq_some_iff.mp hx;obtain ⟨m,hm,rfl⟩:=hway z (List.mem_of_getElem? hz);have hi:i < 3:=by have:=(List.getElem?_eq_some_iff.mp hz).1; omega
     have edr:q.ways.drop i=(m:Int) :: q.ways.drop (i+1):=by
       obtain ⟨hl,e4⟩:=List.getElem?_eq_some_iff.mp hz;rw [← e4,List.getElem_cons_drop]
     rw [edr] at e1;have s2:Same H (upd H' T (.tup [V.int (i:Int),V.int (m:Int)])):=s1.trans (same_new hT);have hT1:=upd_same (H:=H') (a:=T) (o:=.tup [V.int (i:Int),V.int (m:Int)]);have hst2:upd H' T (.tup [V.int (i:Int),V.int (m:Int)]) t=some (.lst (vInts sp)):=same_new hT _ _ hst;generalize upd H' T (.tup [V.int (i:Int),V.int (m:Int)])=H2 at s2 hT1 hst2 ⊢;have hu2:=s2 _ _ hu;push_cast [hu2,fU_corner,TU.cl,TU.corner];refine ⟨_,SqT.of hT1,rfl,_,_,rfl,_,_,rfl,rfl,?_⟩;have htH:H t=none:=ht
     have sAp:∀ y,Same H (upd H2 t (.lst (vInts sp++[y]))):=fun y b o e=>by
       rw [upd_ne (ne_of_none e htH)];exact s2 _ _ e
     have hco2:SqL K H2 co (vInts [(cx:Int),(cy:Int),(cz:Int)]):=SqL.of (by rw [← eC]; exact s2 _ _ hco);rw [startOf_cons] at e1;refine ⟨m,rfl,⟨by decide,by decide⟩,_,TS.st _,_,stride_at hm,?_⟩;refine unf ?_;push_cast [hu2,fU_corner,TU.cl,TU.corner];refine ⟨⟨by decide,by decide⟩,_,hco2,_,cor_at hm,_,rfl,.inr (stride_b _),?_⟩;refine unf ?_;push_cast [and_true];refine ⟨by decide,?_⟩;rw [eC] at e1 hE;by_cases hev:(m:Int) % 2=0
     · rw [if_pos hev] at e1;rw [if_pos (decide_eq_true hev)];refine ⟨.inl ⟨rfl,_,SqL.of hst2⟩,_,hst2,by rw [List.length_map]; omega,hE _ _ (SqL.of (sAp _ _ _ hwy)) ⟨_,_,_,_,_,rfl,e1,by rw [List.length_append,e2]; rfl,sAp _,by rw [upd_same,snocI]⟩⟩
     · rw [if_neg hev] at e1;rw [if_neg (by rw [decide_eq_true_eq]; exact hev)];refine ⟨_,SqL.of (s2 _ _ hsz),_,size_at hi,_,rfl,.inr (stride_b _),.inl ⟨rfl,_,SqL.of hst2⟩,_,hst2,by rw [List.length_map]; omega,hE _ _ (SqL.of (sAp _ _ _ hwy)) ⟨_,_,_,_,_,rfl,e1,by rw [List.length_append,e2]; rfl,sAp _,by rw [upd_same,snocI]⟩⟩
   · rintro σ H' ⟨v4,v5,v6,st,sp,rfl,e1,e2,s1,hst⟩;rw [List.length_map,List.drop_length] at e1;have e1:startOf [(p.w:Int),p.d,p.h] q.cor q.ways 0 0 []=(st,sp):=e1
     have eP:putCells p q=rowsCells p.w p.d st sp 0 p.rows:=by
       unfold putCells;simp only;rw [e1]
     rw [List.length_map,hwl] at e2
     obtain ⟨s0,s1',s2',rfl⟩:∃ a b c,sp=[a,b,c]:=by
       match sp,e2 with
       | [a,b,c],_=>exact ⟨a,b,c,rfl⟩
     have hd1:=Wp.d;have hw1:=Wp.w;have hu1:=s1 _ _ hu;dsimp only;refine unf ?_;push_cast [hu1,fU_part,TU.cl,TU.part];refine ⟨Nat.zero_le _,fun c hc=>?_⟩;have hct:t≠c:=ne_of_none hst hc;have hcH:H c=none:=s1.free hc;have S1:Same H (upd H' c (.lst [])):=s1.trans (same_new hc);have hst1:upd H' c (.lst []) t=some (.lst (vInts [s0,s1',s2'])):=same_new hc _ _ hst;have hc1:=upd_same (H:=H') (a:=c) (o:=.lst []);generalize upd H' c (.lst [])=H1 at S1 hst1 hc1 ⊢;have hpa1:=S1 _ _ hpa;have hu2:=S1 _ _ hu;refine tFor_enumE (K:=K) (a:=rw') (xs:=vNats p.rows) (H1:=H1) (fun i σ H'=>∃ (v8 v9 v10:Option V),σ=[some (V.ref u),some (V.ref sz),some (V.int st),some (V.ref t),v4,v5,v6,some (V.ref c),v8,v9,v10,none]∧Same H H'∧H' t=some (.lst (vInts [s0,s1',s2']))∧H' c=some (.lst (vInts (rowsCells p.w p.d st [s0,s1',s2'] 0 (p.rows.take i))))) (fun R r=>?_) (SqL.of (S1 _ _ hrw)) ⟨none,none,none,rfl,S1,hst1,hc1⟩ ?_ ?_
     · push_cast [hu2,hpa1,fU_part,fP_rows,TU.cl,TU.part,TP.cl,TP.rows];exact ⟨_,SqL.of (S1 _ _ hrw),r⟩
     · rintro i xv σ H3 T E hx ⟨v8,v9,v10,rfl,S3,hst3,hc3⟩ hT hE _ _;rw [List.getElem?_map] at hx;obtain ⟨row,hrow,rfl⟩:=Option.map_eq_some_iff.mp hx;have S4:Same H (upd H3 T (.tup [V.int (i:Int),V.int (row:Int)])):=S3.trans (same_new hT);have hT1:=upd_same (H:=H3) (a:=T) (o:=.tup [V.int (i:Int),V.int (row:Int)]);have hst4:upd H3 T (.tup [V.int (i:Int),V.int (row:Int)]) t=some (.lst (vInts [s0,s1',s2'])):=same_new hT _ _ hst3;have hc4:upd H3 T (.tup [V.int (i:Int),V.int (row:Int)]) c=some (.lst (vInts (rowsCells p.w p.d st [s0,s1',s2'] 0 (p.rows.take i)))):=same_new hT _ _ hc3;generalize upd H3 T (.tup [V.int (i:Int),V.int (row:Int)])=H4 at S4 hT1 hst4 hc4 ⊢;push_cast [and_true];refine ⟨_,SqT.of hT1,rfl,_,_,rfl,_,_,rfl,rfl,?_⟩;have hil:i < p.rows.length:=(List.getElem?_eq_some_iff.mp hrow).1
       have hi256:i < 256:=by
         have h1:=Wp.len;have h2:p.d*p.h≤16*16:=Nat.mul_le_mul Wp.d.2 Wp.h.2;omega
       have hdpos:(0:Int) < (p.d:Int):=by omega
       have m1:=Int.emod_nonneg (i:Int) (b:=(p.d:Int)) (by omega);have m2:=Int.emod_lt_of_pos (i:Int) hdpos;have m3:=Int.ediv_nonneg (a:=(i:Int)) (b:=(p.d:Int)) (by omega) (by omega);have m4:=Int.ediv_le_self (a:=(i:Int)) (p.d:Int) (by omega);refine ⟨_,SqL.of (S4 _ _ hsz),.int p.d,rfl,i,rfl,p.d,rfl,by omega,_,SqL.of hst4,.int s1',rfl,s1',rfl,.inl ⟨by omega,by omega⟩,_,SqL.of (S4 _ _ hsz),.int p.d,rfl,i,rfl,p.d,rfl,⟨by omega,by omega⟩,_,SqL.of hst4,.int s2',rfl,s2',rfl,.inl ⟨by omega,by omega⟩,?_⟩;refine unf ?_;push_cast [and_true];refine ⟨.inl ⟨rfl,_,SqL.of hc4⟩,?_⟩
       have etk:rowsCells p.w p.d st [s0,s1',s2'] 0 (p.rows.take (i+1))=rowsCells p.w p.d st [s0,s1',s2'] 0 (p.rows.take i)++rowCells p.w (st+(i:Int) % (p.d:Int)*s1'+(i:Int) / (p.d:Int)*s2') s0 row:=by
         rw [List.take_succ,hrow];show rowsCells p.w p.d st [s0,s1',s2'] 0 (p.rows.take i++[row])=_;rw [rowsCells_snoc,List.length_take,Nat.min_eq_left (Nat.le_of_lt hil),Nat.zero_add];rfl
       have hlen2:(rowsCells p.w p.d st [s0,s1',s2'] 0 (p.rows.take i)).length≤256*16:=by
         refine Nat.le_trans (rowsCells_len _ _ _ _ _ _) (Nat.mul_le_mul ?_ hw1.2);rw [List.length_take];omega
       generalize hrs:st+(i:Int) % (p.d:Int)*s1'+(i:Int) / (p.d:Int)*s2'=rs at etk ⊢;refine tLc_range (lo:=0) (n:=p.w) (H1:=H4) (fun D j H'=>H4 D=none∧H'=upd H4 D (.lst (vInts (rowCells j rs s0 row)))) (fun R r=>?_) (fun D hD=>⟨hD,rfl⟩) ?_ ?_
       · push_cast [and_true];refine ⟨_,SqL.of (S4 _ _ hsz),.int p.w,rfl,p.w,rfl,by omega,by omega,?_⟩;rw [Int.toNat_natCast];exact r
       · rintro D j H' hj ⟨hD,rfl⟩;have hst5:=same_new (o:=.lst (vInts (rowCells j rs s0 row))) hD _ _ hst4;push_cast [and_true]
         have ebit:Builtin.bitAnd ((row:Int) / 2 ^ ((0+(j:Int)).toNat)) 1=((row / 2 ^ j % 2:Nat):Int):=by
           rw [bitAnd_m1,show (0+(j:Int)).toNat=j by omega];simp
         rw [ebit]
         have erow:rowCells (j+1) rs s0 row=rowCells j rs s0 row++(if (row / 2 ^ j % 2 == 1)=true then [rs+(j:Int)*s0] else []):=by
           unfold rowCells;rw [List.range_succ,List.filter_append,List.map_append];congr 1;by_cases hb:(row / 2 ^ j % 2 == 1)=true
           · rw [List.filter_cons,if_pos hb,if_pos hb];rfl
           · rw [List.filter_cons,if_neg hb,if_neg hb];rfl
         refine ⟨by omega,?_⟩;by_cases hb:row / 2 ^ j % 2=1
         · rw [if_pos (by rw [hb]; rfl)];rw [if_pos (beq_iff_eq.mpr hb)] at erow;refine ⟨_,SqL.of hst5,.int s0,rfl,s0,rfl,.inl ⟨by omega,by omega⟩,?_,hD,?_⟩
           · rw [List.length_map];have:=rowCells_len j rs s0 row;omega
           · rw [erow,Int.zero_add];congr 2;show _=(rowCells j rs s0 row++[_]).map V.int;rw [List.map_append];rfl
         · rw [if_neg (by rw [decide_eq_true_eq]; omega)];rw [if_neg (by rw [beq_iff_eq]; exact hb),List.append_nil] at erow;exact ⟨hD,by rw [erow]⟩
       · rintro D H' ⟨hD,rfl⟩;have hcD:c≠D:=ne_of_none hc4 hD;push_cast [and_true]
         have S6:Same H (upd (upd H4 D (.lst (vInts (rowCells p.w rs s0 row)))) c (.lst (vInts (rowsCells p.w p.d st [s0,s1',s2'] 0 (p.rows.take i))++vInts (rowCells p.w rs s0 row)))):=fun b o e=>by
           rw [upd_ne (ne_of_none e hcH)];exact same_new hD _ _ (S4 _ _ e)
         refine ⟨_,by rw [upd_ne hcD]; exact hc4,?_,hE _ _ (SqL.of (S6 _ _ hrw)) ⟨_,_,_,rfl,S6,?_,?_⟩⟩
         · rw [List.length_map,List.length_map];have:=rowCells_len p.w rs s0 row;omega
         · rw [upd_ne hct];exact same_new hD _ _ hst4
         · rw [etk,upd_same];exact congrArg (fun l=>some (HO.lst l)) List.map_append.symm
     · rintro σ H3 ⟨v8,v9,v10,rfl,S3,hst3,hc3⟩;rw [List.length_map,List.take_length,← eP] at hc3;dsimp only;refine unf ?_;push_cast [and_true];exact k H3 c S3 hcH hc3
end
end Ho
end
section
set_option Elab.async false
set_option linter.all false
set_option maxRecDepth 100000
namespace Ho
open PySem hiding start
open PySem.Spec
open PyProof.Rows hiding St
open L2
noncomputable abbrev sOver:Stmt:=top 41
noncomputable def tot (cs:List (List Int)):Nat:=(cs.map List.length).sum
noncomputable abbrev ownK (o:Own):List (Key × V):=o.map fun p=>(Sum.inl p.1,V.int (p.2:Int))
theorem ownK_val (c:Int):∀ o:Own,valV (ownK o) (Sum.inl c)=(o.lookup c).map fun (i:Nat)=>V.int (i:Int)
 | []=>rfl
 | p :: r=>by
   show valV ((Sum.inl p.1,V.int (p.2:Int)) :: ownK r) (Sum.inl c)=_;by_cases h:p.1=c
   · rw [valV_pos (by rw [h]),List.lookup_cons];have hb:(c == p.1)=true:=beq_iff_eq.mpr h.symm;rw [hb];rfl
   · rw [valV_neg (fun e=>h (Sum.inl.inj e)),List.lookup_cons];have hb:(c == p.1)=false:=beq_eq_false_iff_ne.mpr (Ne.symm h);rw [hb];exact ownK_val c r
theorem ownStep_len (j:Nat) (x:Own × Option (Nat × Nat)) (c:Int):(ownStep j x c).1.length≤x.1.length+1:=by
 unfold ownStep;split
 · exact Nat.le_succ _
 · rw [List.length_append];exact Nat.le_refl _
theorem overFrom_snoc (cs:List Int):∀ (l:List (List Int)) (j:Nat) (x:Own × Option (Nat × Nat)),overFrom j x (l++[cs])=cs.foldl (ownStep (j+l.length)) (overFrom j x l)
 | [],j,x=>rfl
 | a :: l,j,x=>by
   rw [List.cons_append];show overFrom (j+1) (a.foldl (ownStep j) x) (l++[cs])=cs.foldl (ownStep (j+(l.length+1))) (overFrom (j+1) (a.foldl (ownStep j) x) l);rw [overFrom_snoc cs l (j+1),show j+1+l.length=j+(l.length+1) by omega]
theorem foldOwn_len (j:Nat):∀ (l:List Int) (x:Own × Option (Nat × Nat)),(l.foldl (ownStep j) x).1.length≤x.1.length+l.length
 | [],x=>Nat.le_refl _
 | a :: l,x=>by
   rw [List.foldl_cons,List.length_cons];have h1:=foldOwn_len j l (ownStep j x a);have h2:=ownStep_len j x a;omega
section
variable {P:Program} {w:World} {K:PySem.W.Frag} {mg:Str→Option Value} {base:Heap}
theorem scOver:FnScope ["puts","owners","pair","j","cells","cell","i"] ["puts"] (defScope sOver):=⟨rfl,rfl,rfl,by decide +kernel,rfl,by decide +kernel,by decide +kernel⟩
structure LL (H:Hp) (a:Addr) (as:List Addr) (cs:List (List Int)):Prop where
 lst:H a=some (.lst (as.map V.ref))
 len:as.length=cs.length
 it:∀ (i:Nat) (p:Addr) (c:List Int),as[i]? = some p→cs[i]? = some c→H p=some (.lst (vInts c))
theorem LL.same {H H':Hp} {a:Addr} {as:List Addr} {cs:List (List Int)} (h:LL H a as cs) (s:Same H H'):LL H' a as cs:=⟨s _ _ h.lst,h.len,fun i p c e1 e2=>s _ _ (h.it i p c e1 e2)⟩
inductive SpOver (vs:List V) (H:Hp) (Q:VK):Prop
 | mk (a:Addr) (as:List Addr) (cs:List (List Int)) (h0:vs=[.ref a]) (h1:LL H a as cs) (h2:tot cs < sizeLine) (h3:∀ (H':Hp) (p:Addr),Same H H'→H p=none→H' p=some (.lst (vInts (pairL (firstOverlap cs))))→Q (.ref p) H'):SpOver vs H Q
noncomputable def spOver:Sp:=fun vs H Q _=>SpOver vs H Q
theorem tot_take (cs:List (List Int)) (j:Nat) (c:List Int) (h:cs[j]? = some c):tot (cs.take j)+c.length≤tot cs:=by
 have e:cs=cs.take j++(c :: cs.drop (j+1)):=by
   obtain ⟨hl,e4⟩:=List.getElem?_eq_some_iff.mp h;rw [← e4,List.getElem_cons_drop,List.take_append_drop]
 have e2:tot cs=tot (cs.take j)+(c.length+tot (cs.drop (j+1))):=by
   conv=>lhs; rw [e]
   unfold tot;rw [List.map_append,List.sum_append,List.map_cons,List.sum_cons]
 omega
theorem overFrom_len:∀ (l:List (List Int)) (j:Nat) (x:Own × Option (Nat × Nat)),(overFrom j x l).1.length≤x.1.length+tot l
 | [],j,x=>Nat.le_refl _
 | a :: l,j,x=>by
   show (overFrom (j+1) (a.foldl (ownStep j) x) l).1.length≤_;have h1:=overFrom_len l (j+1) (a.foldl (ownStep j) x);have h2:=foldOwn_len j a x;unfold tot at *;rw [List.map_cons,List.sum_cons];omega
set_option maxHeartbeats 1000000 in
theorem ok_over {f aG:Addr} {fd:FuncData} (F:Fun K "first_overlap" "first_overlap" sOver f fd) (TR:TxtR K mg aG):FnOk P w K mg base CX0 1 f fd ["puts"] spOver:=by
 refine F.ok scOver (fun vs H Q E h=>?_) (fun cdv A outer s H vs Q E hr h=>?_)
 · obtain ⟨a,as,cs,rfl,_⟩:=h;rfl
 · obtain ⟨a,as,cs,rfl,hL,ht,k⟩:=h
   refine ⟨_,pss_cons (ps_set (i:=1) scOver.nd rfl (Or.inl rfl) pe_dnewK)
     (pss_cons (ps_set (i:=2) scOver.nd rfl (Or.inl rfl) (pe_lst pa_nil))
     (pss_k (ps_for PassesOwn.never rfl (pi_enum rfl TR.enum (pa_cons (pv 0) pa_nil)) (pg_tup (n:=2) rfl (pgs_cons (pg_name (i:=3) scOver.nd rfl (Or.inl rfl)) (pgs_cons (pg_name (i:=4) scOver.nd rfl (Or.inl rfl)) pgs_nil)))
       (pss_one (ps_for PassesOwn.never rfl (pi_list (pv 4)) (pg_name (i:=5) scOver.nd rfl (Or.inl rfl))
         (pss_k (ps_set (i:=6) scOver.nd rfl (Or.inl rfl) (pe_dset (pv 1) (pv 5) (pv 3) ⟨rfl,rfl,rfl,rfl⟩))
         (pss_one (ps_if (PW.pt (pw_and (pt_cmpR op_ne (pv 6) (pv 3) (nomark _)) (pw_and1 (PW.pt (pw_or (pt_not (pt_truth (pv 2) (fun _=>rfl))) (pw_or1 (pt_cmpR op_lt (pv 6) (pe_ix ix_list (pv 2) pe_int (fun _ _=>rfl)) (nomark _))))))))
           (pss_one (ps_set (i:=2) scOver.nd rfl (Or.inl rfl) (pe_lst (pa_cons (pv 6) (pa_cons (pv 3) pa_nil))))) pss_nil))))))
     (pss_one (ps_ret (pv 2))))),?_⟩
   push_cast [tDNewK];intro d hd;refine ⟨Nat.zero_le _,fun pr hpr=>?_⟩;have hdp:d≠pr:=ne_of_none upd_same hpr;have hpr0:H pr=none:=(same_new hd).free hpr;have S0:Same H (upd (upd H d (.dK [])) pr (.lst [])):=(same_new hd).trans (same_new hpr);have hd0:upd (upd H d (.dK [])) pr (.lst []) d=some (.dK []):=by rw [upd_ne hdp,upd_same]
   have hp0:upd (upd H d (.dK [])) pr (.lst []) pr=some (.lst []):=upd_same;generalize upd (upd H d (.dK [])) pr (.lst [])=H0 at S0 hd0 hp0 ⊢;refine tFor_enumE (K:=K) (a:=a) (xs:=as.map V.ref) (H1:=H0) (fun j σ H'=>∃ (v3 v4 v5 v6:Option V) (pr:Addr) (x:Own × Option (Nat × Nat)),σ=[some (V.ref a),some (V.ref d),some (V.ref pr),v3,v4,v5,v6]∧overFrom 0 ([],none) (cs.take j)=x∧Same H H'∧H' d=some (.dK (ownK x.1))∧H pr=none∧H' pr=some (.lst (vInts (pairL x.2)))) (fun R r=>?_) (SqL.of (S0 _ _ hL.lst)) ⟨none,none,none,none,pr,([],none),rfl,by rw [List.take_zero]; rfl,S0,hd0,hpr0,hp0⟩ ?_ ?_
   · push_cast [and_true];exact ⟨_,SqL.of (S0 _ _ hL.lst),r⟩
   · rintro j xv σ H' T E hx ⟨v3,v4,v5,v6,pr,x,rfl,ex,s1,hdd,hpr0,hpp⟩ hT hE _ _;rw [List.getElem?_map] at hx;obtain ⟨ca,hca,rfl⟩:=Option.map_eq_some_iff.mp hx;have hjl:j < cs.length:=by rw [← hL.len]; exact (List.getElem?_eq_some_iff.mp hca).1
     obtain ⟨c,hc⟩:∃ c,cs[j]? = some c:=⟨_,List.getElem?_eq_getElem hjl⟩;have hcl:=hL.it j ca c hca hc;have s2:Same H (upd H' T (.tup [V.int (j:Int),V.ref ca])):=s1.trans (same_new hT);have hT1:=upd_same (H:=H') (a:=T) (o:=.tup [V.int (j:Int),V.ref ca]);have hdd2:upd H' T (.tup [V.int (j:Int),V.ref ca]) d=some (.dK (ownK x.1)):=same_new hT _ _ hdd;have hpp2:upd H' T (.tup [V.int (j:Int),V.ref ca]) pr=some (.lst (vInts (pairL x.2))):=same_new hT _ _ hpp;generalize upd H' T (.tup [V.int (j:Int),V.ref ca])=H2 at s2 hT1 hdd2 hpp2 ⊢
     have hxl:x.1.length+c.length≤tot cs:=by
       have h1:=overFrom_len (cs.take j) 0 ([],none);rw [ex] at h1;have h2:=tot_take cs j c hc;simp only [List.length_nil,Nat.zero_add] at h1;omega
     push_cast [and_true];refine ⟨_,SqT.of hT1,rfl,_,_,rfl,_,_,rfl,rfl,?_⟩;refine tFor_listE (K:=K) (a:=ca) (xs:=vInts c) (H1:=H2) (fun n σ H'=>∃ (v5 v6:Option V) (pr:Addr) (y:Own × Option (Nat × Nat)),σ=[some (V.ref a),some (V.ref d),some (V.ref pr),some (V.int (j:Int)),some (V.ref ca),v5,v6]∧(c.take n).foldl (ownStep j) x=y∧Same H H'∧H' d=some (.dK (ownK y.1))∧H pr=none∧H' pr=some (.lst (vInts (pairL y.2)))) (fun R r=>?_) (SqL.of (s2 _ _ hcl)) ⟨v5,v6,pr,x,rfl,by rw [List.take_zero]; rfl,s2,hdd2,hpr0,hpp2⟩ ?_ ?_
     · push_cast [and_true];exact ⟨⟨_,SqL.of (s2 _ _ hcl)⟩,r⟩
     · rintro n xv σ H3 E2 hx ⟨v5,v6,pr,y,rfl,ey,s3,hd3,hpr0,hp3⟩ hE2 _ _;rw [List.getElem?_map] at hx;obtain ⟨z,hz,rfl⟩:=Option.map_eq_some_iff.mp hx;have hnl:n < c.length:=(List.getElem?_eq_some_iff.mp hz).1
       have hyl:y.1.length < sizeLine:=by
         have h1:=foldOwn_len j (c.take n) x;rw [ey,List.length_take] at h1;omega
       have enx:(c.take (n+1)).foldl (ownStep j) x=ownStep j y z:=by
         rw [List.take_succ,hz,Option.toList_some,List.foldl_append,ey];rfl
       have hdH:H d=none:=hd;have fin:∀ (σ6:Option V) (p:Addr) (H':Hp),Same H H'→H' d=some (.dK (ownK (ownStep j y z).1))→H p=none→H' p=some (.lst (vInts (pairL (ownStep j y z).2)))→E2.nx [some (V.ref a),some (V.ref d),some (V.ref p),some (V.int (j:Int)),some (V.ref ca),some (V.int z),σ6] H':=fun σ6 p H' q1 q2 q3 q4=>hE2 _ _ (SqL.of (q1 _ _ hcl)) ⟨_,_,p,_,rfl,enx,q1,q2,q3,q4⟩;push_cast [tDSet];refine ⟨.inl ⟨_,.inl hd3⟩,_,hd3,Sum.inl z,rfl,by rw [List.length_map]; exact hyl,fun v hv=>?_,fun hv=>?_⟩
       · rw [ownK_val] at hv;obtain ⟨i,hi,rfl⟩:=Option.map_eq_some_iff.mp hv
         have eS:ownStep j y z=(y.1,if i≠j∧(∀ q∈y.2,i < q.1) then some (i,j) else y.2):=by
           unfold ownStep;rw [hi]
         have yes:(i≠j∧(∀ q∈y.2,i < q.1))→2≤sizeLine∧∀ (p:Addr),H3 p=none→E2.nx [some (V.ref a),some (V.ref d),some (V.ref p),some (V.int (j:Int)),some (V.ref ca),some (V.int z),some (V.int (i:Int))] (upd H3 p (HO.lst [V.int (i:Int),V.int (j:Int)])):=fun h =>
           ⟨by decide,fun p hp=>fin _ p _ (s3.trans (same_new hp)) (by rw [eS]; exact same_new hp _ _ hd3) (s3.free hp) (by rw [upd_same,eS,if_pos h]; rfl)⟩
         have no:¬ (i≠j∧(∀ q∈y.2,i < q.1))→E2.nx [some (V.ref a),some (V.ref d),some (V.ref pr),some (V.int (j:Int)),some (V.ref ca),some (V.int z),some (V.int (i:Int))] H3:=fun h =>
           fin _ pr _ s3 (by rw [eS]; exact hd3) hpr0 (by rw [eS,if_neg h]; exact hp3)
         refine unf ?_;push_cast [and_true];by_cases hij:i=j
         · rw [hij];rw [hij] at no;rw [if_neg (by simp)];exact no fun h=>h.1 rfl
         · rw [if_pos (by rw [Bool.not_eq_true',decide_eq_false_iff_not]; omega)];refine ⟨_,.inl ⟨_,SqL.of hp3,rfl⟩,?_⟩
           cases hy2:y.2 with
           | none =>
             refine iteT (yes ⟨hij,fun q hq=>?_⟩);rw [hy2] at hq
             cases hq
           | some pq =>
             have hp4:SqL K H3 pr (vInts (pairL (some pq))):=SqL.of (by rw [← hy2]; exact hp3);refine iteF ⟨_,hp4,.int (pq.1:Int),rfl,_,rfl,?_⟩;by_cases hlt:i < pq.1
             · rw [if_pos (decide_eq_true (by omega))];refine yes ⟨hij,fun q hq=>?_⟩;rw [hy2] at hq;cases hq;exact hlt
             · rw [if_neg (by rw [decide_eq_true_eq]; omega)];refine no fun h=>hlt ?_;exact h.2 pq (by rw [hy2]; rfl)
       · rw [ownK_val] at hv;have hn:y.1.lookup z=none:=Option.map_eq_none_iff.mp hv
         have eS:ownStep j y z=(y.1++[(z,j)],y.2):=by
           unfold ownStep;rw [hn]
         have hdp3:pr≠d:=ne_of hp3 hd3 (by intro q; cases q);refine unf ?_;push_cast [and_true];rw [if_neg (by simp)];refine fin _ pr _ (fun b o e=>?_) ?_ hpr0 ?_
         · rw [upd_ne (ne_of_none e hdH)];exact s3 _ _ e
         · rw [upd_same,eS];refine congrArg (fun l=>some (HO.dK l)) ?_;show _=(y.1++[(z,j)]).map _;rw [List.map_append];rfl
         · rw [upd_ne hdp3,eS];exact hp3
     · rintro σ H3 ⟨v5,v6,pr,y,rfl,ey,s3,hd3,hpr0,hp3⟩;rw [List.length_map,List.take_length] at ey
       have eo:overFrom 0 ([],none) (cs.take (j+1))=y:=by
         rw [List.take_succ,hc,Option.toList_some,overFrom_snoc,ex,List.length_take,Nat.min_eq_left (Nat.le_of_lt hjl),Nat.zero_add];exact ey
       exact hE _ _ (SqL.of (s3 _ _ hL.lst)) ⟨_,_,v5,v6,pr,y,rfl,eo,s3,hd3,hpr0,hp3⟩
   · rintro σ H' ⟨v3,v4,v5,v6,pr,x,rfl,ex,s1,hdd,hpr0,hpp⟩;dsimp only;refine unf ?_;push_cast [and_true];rw [List.length_map,hL.len,List.take_length] at ex;refine k H' pr s1 hpr0 ?_;rw [hpp];unfold firstOverlap;rw [ex]
end
end Ho
end
section
set_option Elab.async false
set_option linter.all false
set_option maxRecDepth 100000
namespace Ho
open PySem hiding start
open PySem.Spec
open PyProof.Rows hiding St
open L2
noncomputable abbrev sWork:Stmt:=top 42
structure TxtJ (K:PySem.W.Frag) (mg:Str→Option Value):Prop where
 TL:∃ t,mg "TOO_LONG" = some (.int (-2) t)
 FA:∃ t,mg "FAULTY" = some (.int (-6) t)
 OV:∃ t,mg "OVERLAPPING" = some (.int (-9) t)
 MB:∃ t,mg "MOST_BYTES" = some (.int 65536 t)
section
variable {P:Program} {w:World} {K:PySem.W.Frag} {mg:Str→Option Value} {base:Heap}
theorem WAt.start {CW CP CU:Addr} {H:Hp} {p a b c d dx0:Addr} (nd:[p,a,b,c,d].Nodup) (h1:H p=some (.ins CW dx0 (fW a .non b c d))) (h2:H a=some (.dK [])) (h3:H b=some (.lst [])) (h4:H c=some (.lst [])) (h5:H d=some (.lst [])) :
   ∃ ad dx rl,WAt CW CP CU H .none ad dx rl∧ad .work=p∧ad .puts=b∧ad .cells=c∧ad .refu=d∧ad .dict=a∧dx .work=dx0:=by
 simp only [List.nodup_cons,List.mem_cons,List.not_mem_nil,or_false,not_or,List.nodup_nil,and_true,not_false_eq_true] at nd;obtain ⟨⟨n1,n2,n3,n4⟩,⟨n5,n6,n7⟩,⟨n8,n9⟩,n10⟩:=nd;refine ⟨fun r=>match r with | .work=>p | .dict=>a | .puts=>b | .cells=>c | .refu=>d | _=>p,fun _=>dx0,fun x=>if x=p then .work else if x=a then .dict else if x=b then .puts else if x=c then .cells else .refu,⟨fun r h=>?_,fun r h=>?_⟩,rfl,rfl,rfl,rfl,rfl,rfl⟩
 · cases r with
   | work=>exact h1
   | dict=>exact h2
   | puts=>exact h3
   | cells=>exact h4
   | refu=>exact h5
   | part k=>exact absurd h (Nat.not_lt_zero _)
   | sizes k=>exact absurd h (Nat.not_lt_zero _)
   | rows k=>exact absurd h (Nat.not_lt_zero _)
   | put k=>exact absurd h (Nat.not_lt_zero _)
   | ways k=>exact absurd h (Nat.not_lt_zero _)
   | cor k=>exact absurd h (Nat.not_lt_zero _)
 · cases r with
   | work=>exact if_pos rfl
   | dict=>exact (if_neg (Ne.symm n1)).trans (if_pos rfl)
   | puts=>exact (if_neg (Ne.symm n2)).trans ((if_neg (Ne.symm n5)).trans (if_pos rfl))
   | cells=>exact (if_neg (Ne.symm n3)).trans ((if_neg (Ne.symm n6)).trans ((if_neg (Ne.symm n8)).trans (if_pos rfl)))
   | refu=>exact (if_neg (Ne.symm n4)).trans ((if_neg (Ne.symm n7)).trans ((if_neg (Ne.symm n9)).trans (if_neg (Ne.symm n10))))
   | part k=>exact absurd h (Nat.not_lt_zero _)
   | sizes k=>exact absurd h (Nat.not_lt_zero _)
   | rows k=>exact absurd h (Nat.not_lt_zero _)
   | put k=>exact absurd h (Nat.not_lt_zero _)
   | ways k=>exact absurd h (Nat.not_lt_zero _)
   | cor k=>exact absurd h (Nat.not_lt_zero _)
theorem cells_at (m:MW) {k:Nat} (h:k < m.puts.length):m.cells[k]? = some (putCells (m.pt (m.pu k).part) (m.pu k)):=by
 unfold MW.cells MW.pt MW.pu;rw [List.getElem?_map,getD_at ⟨0,[],[]⟩ h];rfl
theorem putCells_len {p:MPart} (W:p.Wf) (u:MPut):(putCells p u).length≤4096:=by
 unfold putCells;simp only;refine Nat.le_trans (rowsCells_len _ _ _ _ _ _) ?_;rw [W.len];have h1:p.d*p.h≤16*16:=Nat.mul_le_mul W.d.2 W.h.2;exact Nat.le_trans (Nat.mul_le_mul h1 W.w.2) (by decide)
theorem tot_le {b:Nat}:∀ (l:List (List Int)),(∀ c∈l,c.length≤b)→tot l≤l.length*b
 | [],_=>Nat.zero_le _
 | a :: l,h=>by
   have h1:=h a (by simp);have h2:=tot_le l fun c hc=>h c (by simp [hc]);unfold tot at *;rw [List.map_cons,List.sum_cons,List.length_cons,Nat.add_mul];omega
theorem tot_cells {m:MW} (W:m.Wf):tot m.cells < sizeLine:=by
 have hsl:sizeLine=16777216:=sizeLine_eq
 have h1:tot m.cells≤m.cells.length*4096:=tot_le _ fun c hc=>by
   obtain ⟨k,hk,rfl⟩:=List.mem_iff_getElem.mp hc
   have hk2:k < m.puts.length:=by
     unfold MW.cells at hk;rw [List.length_map] at hk;exact hk
   have e:=cells_at m hk2;rw [List.getElem?_eq_getElem hk] at e;rw [Option.some.inj e];exact putCells_len (W.pt (W.pu hk2).part) _
 have h2:m.cells.length≤32:=by
   unfold MW.cells;rw [List.length_map];exact W.nu
 omega
theorem fW_setR (d p c r z:Addr) (l:V):putF (Str.ofString "refusal") (V.ref z) (fW d l p c r)=fW d l p c z:=by
 rw [putF_ne (by decide +kernel),putF_ne (by decide +kernel),putF_ne (by decide +kernel),putF_ne (by decide +kernel),putF_eq]
theorem fW_setC (d p c r z:Addr) (l:V):putF (Str.ofString "cells") (V.ref z) (fW d l p c r)=fW d l p z r:=by
 rw [putF_ne (by decide +kernel),putF_ne (by decide +kernel),putF_ne (by decide +kernel),putF_eq]
theorem scWork:FnScope ["text","work","fault","pair","put"] ["text"] (defScope sWork):=⟨rfl,rfl,rfl,by decide +kernel,rfl,by decide +kernel,by decide +kernel⟩
structure WorkOut (CW:Addr) (H:Hp) (p ra ca:Addr) (as:List Addr) (r:List Int × List (List Int)):Prop where
 obj:∃ dx d l pu,H p=some (.ins CW dx (fW d l pu ca ra))
 ref:H ra=some (.lst (vInts r.1))
 cells:LL H ca as r.2
inductive SpWork (K:PySem.W.Frag) (CW:Addr) (vs:List V) (H:Hp) (Q:VK):Prop
 | mk (a:Addr) (ns:List Int) (h0:vs=[.ref a]) (h1:SqL K H a (vInts ns)) (h2:ns.length≤65600) (h3:(∀ n∈ns,0≤n∧n≤255)) (h4:∀ (H':Hp) (p ra ca:Addr) (as:List Addr),Same H H'→WorkOut CW H' p ra ca as (readWork ns)→Q (.ref p) H'):SpWork K CW vs H Q
noncomputable def spWork (K:PySem.W.Frag) (CW:Addr):Sp:=fun vs H Q _=>SpWork K CW vs H Q
set_option maxHeartbeats 2000000 in
theorem ok_work {f CW CP CU aG:Addr} {fd:FuncData} (F:Fun K "read_work" "read_work" sWork f fd) (T:Txt K mg) (TJ:TxtJ K mg) (TW:TxtW K mg CW)
   (C1:Mkr P w K mg base CW "Work" ["self"] (spWorkI CW)) (C2:Cal P w K mg base 5 "read_lines" ["work","text"] (spLines K CW CP CU)) (C3:Cal P w K mg base 1 "put_cells" ["put"] (spCells CP CU)) (C4:Cal P w K mg base 1 "first_overlap" ["puts"] spOver) :
   FnOk P w K mg base CX0 6 f fd ["text"] (spWork K CW):=by
 obtain ⟨g1,d1,M1,G1,b1,h1⟩:=C1.ex;obtain ⟨g2,d2,G2,b2,h2,k2⟩:=C2.ex;obtain ⟨g3,d3,G3,b3,h3,k3⟩:=C3.ex;obtain ⟨g4,d4,G4,b4,h4,k4⟩:=C4.ex;refine F.ok scWork (fun vs H Q E h=>?_) (fun cdv A outer s H vs Q E hr h=>?_)
 · obtain ⟨a,ns,rfl,_⟩:=h;rfl
 · obtain ⟨a,ns,rfl,hs,hl,hb,k⟩:=h;have hr1:Room 1 _:=hr.mono (by decide);have hr2:Room 2 _:=hr.mono (by decide)
   refine ⟨_,pss_k (ps_set (i:=1) scWork.nd rfl (Or.inl rfl) (pe_make0 M1 G1 hr2 rfl h1 b1 .nil pass0))
     (pss_k (ps_if (pt_cmpR op_gt (pe_callB call_len_seq (by rfl) T.len PySem.boot_len (pa_cons (pv 0) pa_nil)) (pe_gi TJ.MB) (nomark _))
       (pss_cons (ps_fld (pv 1) (pe_lst (pa_cons (pe_gi TJ.TL) pa_nil)) rfl) (pss_one (ps_ret (pv 1)))) pss_nil)
     (pss_k (ps_set (i:=2) scWork.nd rfl (Or.inl rfl) (pe_call G2 hr rfl h2 k2 b2 .nil pass0 (pa_cons (pv 1) (pa_cons (pv 0) pa_nil))))
     (pss_k (ps_if (pt_truth (pv 2) (fun _=>rfl))
       (pss_cons (ps_fld (pv 1) (pe_op op_cat (pe_lst (pa_cons (pe_gi TJ.FA) pa_nil)) (pv 2)) rfl) (pss_one (ps_ret (pv 1)))) pss_nil)
     (pss_k (ps_fld (pv 1) (pe_lc rfl scWork.nd (pi_list (pe_fld (pv 1) rfl)) (blkOk_by (show blkC ["text","work","fault","pair","put"] (defScope sWork) _ [("put",4)]=true from by decide +kernel)) (fun _ _ _ _ _=>pg_name (i:=4) scWork.nd rfl (Or.inl rfl)) (fun _ _ _ _ _=>pts_nil)
         (fun _ _ _ _ _=>pe_call G3 hr1 rfl h3 k3 b3 .nil pass0 (pa_cons (pv 4) pa_nil))) rfl)
     (pss_k (ps_set (i:=3) scWork.nd rfl (Or.inl rfl) (pe_call G4 hr1 rfl h4 k4 b4 .nil pass0 (pa_cons (pe_fld (pv 1) rfl) pa_nil)))
     (pss_cons (ps_if (pt_truth (pv 3) (fun _=>rfl))
       (pss_one (ps_fld (pv 1) (pe_op op_cat (pe_lst (pa_cons (pe_gi TJ.OV) pa_nil)) (pv 3)) rfl)) pss_nil)
     (pss_one (ps_ret (pv 1))))))))),?_⟩
   push_cast [and_true];intro x dx0 hx hdx hne;refine ⟨x,dx0,rfl,upd_same,fun H1 a1 a2 a3 a4 nd n1 n2 n3 n4 o1 o2 o3 o4 o5 kp=>⟨rfl,?_⟩⟩;refine unf ?_;push_cast [and_true];have S1:Same H H1:=fun b o e=>kp b o (by rw [upd_ne (ne_of_none e hx),upd_ne (ne_of_none e hdx)]; exact e) (ne_of_none e hx);obtain ⟨ad,dx,rl,W,ew,ep,ec,er,ed,edx⟩:=WAt.start (CP:=CP) (CU:=CU) nd o1 o2 o3 o4 o5;have hsl:sizeLine=16777216:=sizeLine_eq;refine ⟨_,.inl (S1.seq hs),?_⟩;rw [List.length_map];by_cases hbig:65536 < ns.length
   · have eR:readWork ns=([-2],[]):=by
       unfold readWork;rw [if_pos hbig]
     rw [if_pos (decide_eq_true (by omega))];refine ⟨by decide,fun p hp=>?_⟩;have hxp:x≠p:=ne_of_none o1 hp;have hcp:a3≠p:=ne_of_none o4 hp;have hcx:a3≠x:=ne_of o4 o1 (by intro z; cases z);refine ⟨CW,dx0,_,by rw [upd_ne hxp]; exact o1,TW.cl,TW.refusal,(by show (5:Nat) < 1000; decide),?_⟩;rw [fW_setR];refine k _ x p a3 [] (fun b o e=>by rw [upd_ne (ne_of_none e hx),upd_ne (ne_of_none (S1 _ _ e) hp)]; exact S1 _ _ e) ?_;rw [eR];exact ⟨⟨_,_,_,_,upd_same⟩,by rw [upd_ne (Ne.symm hxp)]; exact upd_same,⟨by rw [upd_ne hcx,upd_ne hcp]; exact o4,rfl,fun i p c h1 h2=>by simp at h1⟩⟩
   rw [if_neg (by rw [decide_eq_true_eq]; omega)];refine unf ?_;push_cast [and_true];refine ⟨ad,dx,rl,a,ns,by rw [ew],W,S1.seq hs,hl,hb,fun H2 ad' dx' rl' p W2 Wf2 Gg hp0 hp hpr=>?_⟩
   have Sx:Same H (upd (upd H dx0 (.own x)) x (.ins CW dx0 [])):=fun b o e=>by
     rw [upd_ne (ne_of_none e hx),upd_ne (ne_of_none e hdx)];exact e
   have S2:Same H H2:=fun b o e=>Gg.keep b o (S1 b o e) fun r hr=>by
     cases r with
     | work=>rw [ew]; exact ne_of_none e hx
     | dict=>rw [ed]; exact ne_of_none e (Sx.free n1)
     | puts=>rw [ep]; exact ne_of_none e (Sx.free n2)
     | cells=>rw [ec]; exact ne_of_none e (Sx.free n3)
     | refu=>rw [er]; exact ne_of_none e (Sx.free n4)
     | part k=>exact absurd hr (Nat.not_lt_zero _)
     | sizes k=>exact absurd hr (Nat.not_lt_zero _)
     | rows k=>exact absurd hr (Nat.not_lt_zero _)
     | put k=>exact absurd hr (Nat.not_lt_zero _)
     | ways k=>exact absurd hr (Nat.not_lt_zero _)
     | cor k=>exact absurd hr (Nat.not_lt_zero _)
   have eW0:readWork ns=(if (readText (codes ns)).2≠[] then (-6 :: (readText (codes ns)).2,[]) else match firstOverlap (readText (codes ns)).1.cells with | some p=>(-9 :: pairL (some p),(readText (codes ns)).1.cells) | none=>([],(readText (codes ns)).1.cells)):=by
     unfold readWork;rw [if_neg hbig];rfl
   have hfl:=readText_len (codes ns);generalize readText (codes ns)=rt at W2 Wf2 Gg hp hpr eW0 hfl ⊢;obtain ⟨m,fault⟩:=rt;simp only at W2 Wf2 Gg hp hpr eW0 hfl ⊢;have ew2:ad' .work=x:=by rw [(Gg.old .work trivial).2,ew]
   have hwk:H2 x=some (.ins CW (dx' .work) (fW (ad' .dict) (latestV m ad') (ad' .puts) (ad' .cells) (ad' .refu))):=by
     rw [← ew2];exact W2.obj .work trivial
   have hce:H2 (ad' .cells)=some (.lst []):=W2.obj .cells trivial;have hre:H2 (ad' .refu)=some (.lst []):=W2.obj .refu trivial;have hpu:H2 (ad' .puts)=some (.lst ((List.range m.puts.length).map fun k=>V.ref (ad' (.put k)))):=W2.obj .puts trivial;refine unf ?_;push_cast [and_true];refine ⟨_,.inl ⟨_,SqL.of hp,rfl⟩,?_⟩;by_cases hf:fault=[];rotate_left
   · rw [if_pos hf] at eW0
     rw [if_pos (by
       cases h:fault with
       | nil=>exact absurd h hf
       | cons a r=>rfl)]
     refine ⟨by decide,fun q hq=>?_⟩;have hpq:p≠q:=ne_of_none hp hq;refine ⟨_,by rw [upd_ne hpq]; exact hp,?_,fun q2 hq2=>?_⟩
     · rw [List.length_map]; omega
     · have hxq:x≠q:=ne_of_none hwk hq;have hxq2:x≠q2:=ne_of_none (by rw [upd_ne hxq]; exact hwk) hq2;have hcq:ad' .cells≠q:=ne_of_none hce hq;have hcq2:ad' .cells≠q2:=ne_of_none (by rw [upd_ne hcq]; exact hce) hq2;have hcx:ad' .cells≠x:=ne_of hce hwk (by intro z; cases z);refine ⟨CW,_,_,by rw [upd_ne hxq2,upd_ne hxq]; exact hwk,TW.cl,TW.refusal,(by show (5:Nat) < 1000; decide),?_⟩;rw [fW_setR];refine k _ x q2 (ad' .cells) [] (fun b o e=>by rw [upd_ne (ne_of_none e hx)]; exact same_new hq2 _ _ (same_new hq _ _ (S2 _ _ e))) ?_;rw [eW0];exact ⟨⟨_,_,_,_,upd_same⟩,by rw [upd_ne (Ne.symm hxq2)]; exact upd_same,⟨by rw [upd_ne hcx,upd_ne hcq2,upd_ne hcq]; exact hce,rfl,fun i p c h1 h2=>by simp at h1⟩⟩
   rw [if_neg (fun h=>h hf)] at eW0;subst hf;refine iteF (unf ?_);push_cast [and_true];refine tLc_list (K:=K) (a:=ad' .puts) (xs:=(List.range m.puts.length).map fun k=>V.ref (ad' (.put k))) (H1:=H2) (fun D i H'=>∃ as:List Addr,as.length=i∧Same H2 H'∧H2 D=none∧H' D=some (.lst (as.map V.ref))∧(∀ (k:Nat) (p:Addr),as[k]? = some p→p≠D∧∃ c,m.cells[k]? = some c∧H' p=some (.lst (vInts c)))) (fun R r=>?_) (fun D hD=>⟨[],rfl,same_new hD,hD,upd_same,fun k p h=>by simp at h⟩) (fun D i H' _ ⟨as,_,s',_⟩=>SqL.of (s' _ _ hpu)) ?_ ?_
   · push_cast [hwk,fW_puts,TW.cl,TW.puts];exact ⟨⟨_,SqL.of hpu⟩,r⟩
   · rintro D i xv H3 hx ⟨as,hal,s3,hD,hDl,hit⟩;rw [List.getElem?_map] at hx;obtain ⟨i',hi',rfl⟩:=Option.map_eq_some_iff.mp hx;obtain ⟨hil,hie⟩:=List.getElem?_eq_some_iff.mp hi';rw [List.length_range] at hil;rw [List.getElem_range] at hie;subst hie;have W3:=W2.same s3;have Wu:=Wf2.pu hil;have Wp:=Wf2.pt Wu.part;push_cast [and_true];refine ⟨ad' (.put i),_,ad' (.part (m.pu i).part),_,ad' (.ways i),ad' (.cor i),ad' (.sizes (m.pu i).part),ad' (.rows (m.pu i).part),m.pt (m.pu i).part,m.pu i,m.parts.length,rfl,W3.obj (.put i) hil,W3.obj (.part _) Wu.part,W3.obj (.sizes _) Wu.part,W3.obj (.rows _) Wu.part,W3.obj (.ways i) hil,W3.obj (.cor i) hil,Wp,Wu,fun H4 l s4 hl0 hl1=>?_⟩;have hDl4:=s4 _ _ hDl;have hlD:l≠D:=Ne.symm (ne_of_none hDl hl0);refine ⟨_,hDl4,by rw [List.length_map,hal]; have:=Wf2.nu; omega,as++[l],by rw [List.length_append,hal]; rfl,fun b o e=>?_,hD,?_,fun k p h=>?_⟩
     · rw [upd_ne (ne_of_none e hD)];exact s4 _ _ (s3 _ _ e)
     · rw [List.map_append];rfl
     · by_cases hk:k < as.length
       · rw [List.getElem?_append_left hk] at h;obtain ⟨n1,c,hc1,hc2⟩:=hit k p h;exact ⟨n1,c,hc1,by rw [upd_ne n1]; exact s4 _ _ hc2⟩
       · rw [List.getElem?_append_right (by omega)] at h
         have hk2:k - as.length=0:=by
           have:=(List.getElem?_eq_some_iff.mp h).1;simp at this;omega
         rw [hk2] at h;have hpl:l=p:=Option.some.inj h;subst hpl;have hki:k=i:=by omega
         subst hki;exact ⟨hlD,_,cells_at m hil,by rw [upd_ne hlD]; exact hl1⟩
   · rintro D H3 ⟨as,hal,s3,hD,hDl,hit⟩;rw [List.length_map,List.length_range] at hal;have hwk3:=s3 _ _ hwk;have hxD:D≠x:=ne_of hDl hwk3 (by intro z; cases z);refine ⟨CW,_,_,hwk3,TW.cl,TW.cells,(by show (5:Nat) < 1000; decide),?_⟩;rw [fW_setC];have hcl:m.cells.length=m.puts.length:=by unfold MW.cells; rw [List.length_map]
     have hLL:LL (upd H3 x (.ins CW (dx' .work) (fW (ad' .dict) (latestV m ad') (ad' .puts) D (ad' .refu)))) D as m.cells:=by
       refine ⟨by rw [upd_ne hxD]; exact hDl,by rw [hal,hcl],fun i p c h1 h2=>?_⟩;obtain ⟨n1,c',hc1,hc2⟩:=hit i p h1;rw [h2] at hc1;have e:=Option.some.inj hc1;subst e;have hpx:p≠x:=ne_of hc2 hwk3 (by intro z; cases z);rw [upd_ne hpx];exact hc2
     have hx4:=upd_same (H:=H3) (a:=x) (o:=.ins CW (dx' .work) (fW (ad' .dict) (latestV m ad') (ad' .puts) D (ad' .refu)))
     have hre4:upd H3 x (.ins CW (dx' .work) (fW (ad' .dict) (latestV m ad') (ad' .puts) D (ad' .refu))) (ad' .refu)=some (.lst []):=by
       rw [upd_ne (ne_of (s3 _ _ hre) hwk3 (by intro z; cases z))];exact s3 _ _ hre
     have S4:Same H (upd H3 x (.ins CW (dx' .work) (fW (ad' .dict) (latestV m ad') (ad' .puts) D (ad' .refu)))):=fun b o e=>by
       rw [upd_ne (ne_of_none e hx)];exact s3 _ _ (S2 _ _ e)
     generalize upd H3 x (.ins CW (dx' .work) (fW (ad' .dict) (latestV m ad') (ad' .puts) D (ad' .refu)))=H4 at hLL hx4 hre4 S4 ⊢;refine unf ?_;push_cast [hx4,fW_cells,TW.cl,TW.cells];refine ⟨D,as,m.cells,rfl,hLL,tot_cells Wf2,fun H5 pr s5 hpr0 hpr5=>?_⟩;refine unf ?_;push_cast [and_true];refine ⟨_,.inl ⟨_,SqL.of hpr5,rfl⟩,?_⟩;have hx5:=s5 _ _ hx4
     cases hov:firstOverlap m.cells with
     | none =>
       rw [hov] at eW0 hpr5;refine iteF (k _ x (ad' .refu) D as (S4.trans s5) ?_);rw [eW0]
       exact ⟨⟨_,_,_,_,hx5⟩,s5 _ _ hre4,hLL.same s5⟩
     | some pq =>
       rw [hov] at eW0 hpr5;refine iteT ⟨by decide,fun q hq=>?_⟩;have hpq:pr≠q:=ne_of_none hpr5 hq;refine ⟨_,by rw [upd_ne hpq]; exact hpr5,(by show 3≤sizeLine; decide),fun q2 hq2=>?_⟩;have hxq:x≠q:=ne_of_none hx5 hq;have hxq2:x≠q2:=ne_of_none (by rw [upd_ne hxq]; exact hx5) hq2;refine ⟨CW,_,_,by rw [upd_ne hxq2,upd_ne hxq]; exact hx5,TW.cl,TW.refusal,(by show (5:Nat) < 1000; decide),?_⟩;rw [fW_setR]
       have hs6:∀ b o,H5 b=some o→b≠x→upd (upd (upd H5 q (.lst [V.int (-9)])) q2 (.lst (V.int (-9) :: vInts (pairL (some pq))))) x (.ins CW (dx' .work) (fW (ad' .dict) (latestV m ad') (ad' .puts) D q2)) b=some o:=fun b o e n=>by
         rw [upd_ne n,(same_new hq2) _ _ ((same_new hq) _ _ e)]
       have hL5:=hLL.same s5;refine k _ x q2 D as (fun b o e=>hs6 b o (s5 _ _ (S4 b o e)) (ne_of_none e hx)) ?_;rw [eW0];refine ⟨⟨_,_,_,_,upd_same⟩,by rw [upd_ne (Ne.symm hxq2)]; exact upd_same,⟨hs6 _ _ hL5.lst (ne_of hL5.lst hx5 (by intro z; cases z)),hL5.len,fun i p c h1 h2=>?_⟩⟩;have:=hL5.it i p c h1 h2;exact hs6 _ _ this (ne_of this hx5 (by intro z; cases z))
end
end Ho
end
section
set_option Elab.async false
set_option linter.all false
set_option maxRecDepth 100000
namespace Ho
open PySem hiding start
open PySem.Spec
open PyProof.Rows hiding St
open L2
noncomputable abbrev sJudge:Stmt:=top 44
section
variable {P:Program} {w:World} {K:PySem.W.Frag} {mg:Str→Option Value} {base:Heap}
theorem scJudge:FnScope ["text","work"] ["text"] (defScope sJudge):=⟨rfl,rfl,rfl,by decide +kernel,rfl,by decide +kernel,by decide +kernel⟩
inductive SpJudge (K:PySem.W.Frag) (vs:List V) (H:Hp) (Q:VK):Prop
 | mk (a:Addr) (ns:List Int) (h0:vs=[.ref a]) (h1:SqL K H a (vInts ns)) (h2:ns.length≤65600) (h3:(∀ n∈ns,0≤n∧n≤255)) (h4:∀ (H':Hp) (p:Addr),H' p=some (.lst (vInts (judge ns)))→Q (.ref p) H'):SpJudge K vs H Q
noncomputable def spJudge (K:PySem.W.Frag):Sp:=fun vs H Q _=>SpJudge K vs H Q
theorem ok_judge {f CW:Addr} {fd:FuncData} (F:Fun K "judge" "judge" sJudge f fd) (TW:TxtW K mg CW) (C1:Cal P w K mg base 6 "read_work" ["text"] (spWork K CW)):FnOk P w K mg base CX0 7 f fd ["text"] (spJudge K):=by
 obtain ⟨g1,d1,G1,b1,h1,k1⟩:=C1.ex;refine F.ok scJudge (fun vs H Q E h=>?_) (fun cdv A outer s H vs Q E hr h=>?_)
 · obtain ⟨a,ns,rfl,_⟩:=h;rfl
 · obtain ⟨a,ns,rfl,hs,hl,hb,k⟩:=h
   refine ⟨_,pss_cons (ps_set (i:=1) scJudge.nd rfl (Or.inl rfl) (pe_call G1 hr rfl h1 k1 b1 .nil pass0 (pa_cons (pv 0) pa_nil)))
     (pss_cons (ps_if (pt_truth (pe_fld (pv 1) rfl) (fun _=>rfl)) (pss_one (ps_ret (pe_fld (pv 1) rfl))) pss_nil)
     (pss_one (ps_ret (pe_lst (pa_cons pe_int pa_nil))))),?_⟩
   push_cast [and_true];refine ⟨a,ns,rfl,hs,hl,hb,fun H1 p ra ca as _ wo=>?_⟩;obtain ⟨⟨dx,d,l,pu,ho⟩,hr1,hc⟩:=wo;push_cast [ho,fW_refusal,TW.cl,TW.refusal];refine ⟨_,.inl ⟨_,SqL.of hr1,rfl⟩,?_⟩;by_cases h0:(readWork ns).1=[]
   · rw [h0];refine iteF ⟨by decide,fun q hq=>k _ q ?_⟩;rw [upd_same];unfold judge;rw [if_neg (fun h=>h h0)];rfl
   · rw [if_pos (by
       cases h:(readWork ns).1 with
       | nil=>exact absurd h h0
       | cons a r=>rfl)]
     refine k _ ra ?_;rw [hr1];unfold judge;rw [if_pos h0]
end
end Ho
end
section
namespace Ho
open PySem hiding start
open PySem.Spec
open PyProof.Rows hiding St
open L2
set_option maxHeartbeats 2000000 in
theorem all_mk {P:Program} {w:World} {K:PySem.W.Frag} {h:Heap} {mg:Str→Option Value} {fa CP CU CW aG aW aS f00 f01 f02 f03 f04 f05 f06 f07 f08 f09 f0a f0b f0c f0d f0e f0f f0g i0h i0i i0j p0 p1 p2 p3 p4 p5:Addr} (X:K.In h) (G:h.Ns mainGlobals mg) (hfa:mg "judge" = some (.ref fa))
   {oc00 kV00 dc00 pm00 cd00 ct00 oc01 kV01 dc01 pm01 cd01 ct01 oc02 kV02 dc02 pm02 cd02 ct02 oc03 kV03 dc03 pm03 cd03 ct03 oc04 kV04 dc04 pm04 cd04 ct04 oc05 kV05 dc05 pm05 cd05 ct05 oc06 kV06 dc06 pm06 cd06 ct06 oc07 kV07 dc07 pm07 cd07 ct07 oc08 kV08 dc08 pm08 cd08 ct08 oc09 kV09 dc09 pm09 cd09 ct09 oc0a kV0a dc0a pm0a cd0a ct0a oc0b kV0b dc0b pm0b cd0b ct0b oc0c kV0c dc0c pm0c cd0c ct0c oc0d kV0d dc0d pm0d cd0d ct0d oc0e kV0e dc0e pm0e cd0e ct0e oc0f kV0f dc0f pm0f cd0f ct0f oc0g kV0g dc0g pm0g cd0g ct0g oc0h kV0h dc0h pm0h cd0h ct0h oc0i kV0i dc0i pm0i cd0i ct0i oc0j kV0j dc0j pm0j cd0j ct0j:Value} {od00 an00 od01 an01 od02 an02 od03 an03 od04 an04 od05 an05 od06 an06 od07 an07 od08 an08 od09 an09 od0a an0a od0b an0b od0c an0c od0d an0d od0e an0e od0f an0f od0g an0g od0h an0h od0i an0i od0j an0j:Option Addr} {sl00 sl01 sl02 sl03 sl04 sl05 sl06 sl07 sl08 sl09 sl0a sl0b sl0c sl0d sl0e sl0f sl0g sl0h sl0i sl0j sl_G sl_S sl_W sl_p0 sl_p1 sl_p2 sl_p3 sl_p4 sl_p5:Array (Option Value)} {t00 t01 t02 t03 t04 t05 t06 t07 t08 t09 t0a t0b t0c t0d t0e t0f t0g t0h t0i t0j t_G0 t_G1 t_G2 t_S0 t_S1 t_S2 t_p0_0 t_p0_1 t_p0_2 t_p1_0 t_p1_1 t_p1_2 t_p2_0 t_p2_1 t_p2_2 t_p3_0 t_p3_1 t_p3_2 t_p4_0 t_p4_1 t_p4_2 t_p5_0 t_p5_1 t_p5_2:Tok} {n_G n_S n_W n_p0 n_p1 n_p2 n_p3 n_p4 n_p5:Nat}
   (a00:PySem.W.nsIn K mainGlobals "split_lines" = some (some (.ref f00)))
   (l00:K.lookup f00=some ⟨oc00,od00,.func (PySem.W.fnOf "split_lines" "split_lines" (defArgs sSplit) (defBody sSplit) (defScope sSplit) .none kV00 dc00 pm00 an00 cd00 ct00),sl00⟩)
   (c00:PySem.W.codeIn K cd00 "split_lines" = true)
   (k00:PySem.W.keepIn K (.ref f00)=true)
   (a01:PySem.W.nsIn K mainGlobals "is_name" = some (some (.ref f01)))
   (l01:K.lookup f01=some ⟨oc01,od01,.func (PySem.W.fnOf "is_name" "is_name" (defArgs sIsName) (defBody sIsName) (defScope sIsName) .none kV01 dc01 pm01 an01 cd01 ct01),sl01⟩)
   (c01:PySem.W.codeIn K cd01 "is_name" = true)
   (k01:PySem.W.keepIn K (.ref f01)=true)
   (a02:PySem.W.nsIn K mainGlobals "read_number" = some (some (.ref f02)))
   (l02:K.lookup f02=some ⟨oc02,od02,.func (PySem.W.fnOf "read_number" "read_number" (defArgs sNumber) (defBody sNumber) (defScope sNumber) .none kV02 dc02 pm02 an02 cd02 ct02),sl02⟩)
   (c02:PySem.W.codeIn K cd02 "read_number" = true)
   (k02:PySem.W.keepIn K (.ref f02)=true)
   (a03:PySem.W.nsIn K mainGlobals "read_numbers" = some (some (.ref f03)))
   (l03:K.lookup f03=some ⟨oc03,od03,.func (PySem.W.fnOf "read_numbers" "read_numbers" (defArgs sNumbers) (defBody sNumbers) (defScope sNumbers) .none kV03 dc03 pm03 an03 cd03 ct03),sl03⟩)
   (c03:PySem.W.codeIn K cd03 "read_numbers" = true)
   (k03:PySem.W.keepIn K (.ref f03)=true)
   (a04:PySem.W.nsIn K mainGlobals "all_within" = some (some (.ref f04)))
   (l04:K.lookup f04=some ⟨oc04,od04,.func (PySem.W.fnOf "all_within" "all_within" (defArgs sWithin) (defBody sWithin) (defScope sWithin) .none kV04 dc04 pm04 an04 cd04 ct04),sl04⟩)
   (c04:PySem.W.codeIn K cd04 "all_within" = true)
   (k04:PySem.W.keepIn K (.ref f04)=true)
   (a05:PySem.W.nsIn K mainGlobals "cross" = some (some (.ref f05)))
   (l05:K.lookup f05=some ⟨oc05,od05,.func (PySem.W.fnOf "cross" "cross" (defArgs sCross) (defBody sCross) (defScope sCross) .none kV05 dc05 pm05 an05 cd05 ct05),sl05⟩)
   (c05:PySem.W.codeIn K cd05 "cross" = true)
   (k05:PySem.W.keepIn K (.ref f05)=true)
   (a06:PySem.W.nsIn K mainGlobals "read_ways" = some (some (.ref f06)))
   (l06:K.lookup f06=some ⟨oc06,od06,.func (PySem.W.fnOf "read_ways" "read_ways" (defArgs sWays) (defBody sWays) (defScope sWays) .none kV06 dc06 pm06 an06 cd06 ct06),sl06⟩)
   (c06:PySem.W.codeIn K cd06 "read_ways" = true)
   (k06:PySem.W.keepIn K (.ref f06)=true)
   (a07:PySem.W.nsIn K mainGlobals "read_part" = some (some (.ref f07)))
   (l07:K.lookup f07=some ⟨oc07,od07,.func (PySem.W.fnOf "read_part" "read_part" (defArgs sPart) (defBody sPart) (defScope sPart) .none kV07 dc07 pm07 an07 cd07 ct07),sl07⟩)
   (c07:PySem.W.codeIn K cd07 "read_part" = true)
   (k07:PySem.W.keepIn K (.ref f07)=true)
   (a08:PySem.W.nsIn K mainGlobals "read_cut" = some (some (.ref f08)))
   (l08:K.lookup f08=some ⟨oc08,od08,.func (PySem.W.fnOf "read_cut" "read_cut" (defArgs sCut) (defBody sCut) (defScope sCut) .none kV08 dc08 pm08 an08 cd08 ct08),sl08⟩)
   (c08:PySem.W.codeIn K cd08 "read_cut" = true)
   (k08:PySem.W.keepIn K (.ref f08)=true)
   (a09:PySem.W.nsIn K mainGlobals "cut_away" = some (some (.ref f09)))
   (l09:K.lookup f09=some ⟨oc09,od09,.func (PySem.W.fnOf "cut_away" "cut_away" (defArgs sCutA) (defBody sCutA) (defScope sCutA) .none kV09 dc09 pm09 an09 cd09 ct09),sl09⟩)
   (c09:PySem.W.codeIn K cd09 "cut_away" = true)
   (k09:PySem.W.keepIn K (.ref f09)=true)
   (a0a:PySem.W.nsIn K mainGlobals "read_put" = some (some (.ref f0a)))
   (l0a:K.lookup f0a=some ⟨oc0a,od0a,.func (PySem.W.fnOf "read_put" "read_put" (defArgs sPut) (defBody sPut) (defScope sPut) .none kV0a dc0a pm0a an0a cd0a ct0a),sl0a⟩)
   (c0a:PySem.W.codeIn K cd0a "read_put" = true)
   (k0a:PySem.W.keepIn K (.ref f0a)=true)
   (a0b:PySem.W.nsIn K mainGlobals "read_line" = some (some (.ref f0b)))
   (l0b:K.lookup f0b=some ⟨oc0b,od0b,.func (PySem.W.fnOf "read_line" "read_line" (defArgs sLine) (defBody sLine) (defScope sLine) .none kV0b dc0b pm0b an0b cd0b ct0b),sl0b⟩)
   (c0b:PySem.W.codeIn K cd0b "read_line" = true)
   (k0b:PySem.W.keepIn K (.ref f0b)=true)
   (a0c:PySem.W.nsIn K mainGlobals "read_lines" = some (some (.ref f0c)))
   (l0c:K.lookup f0c=some ⟨oc0c,od0c,.func (PySem.W.fnOf "read_lines" "read_lines" (defArgs sLines) (defBody sLines) (defScope sLines) .none kV0c dc0c pm0c an0c cd0c ct0c),sl0c⟩)
   (c0c:PySem.W.codeIn K cd0c "read_lines" = true)
   (k0c:PySem.W.keepIn K (.ref f0c)=true)
   (a0d:PySem.W.nsIn K mainGlobals "put_cells" = some (some (.ref f0d)))
   (l0d:K.lookup f0d=some ⟨oc0d,od0d,.func (PySem.W.fnOf "put_cells" "put_cells" (defArgs sCells) (defBody sCells) (defScope sCells) .none kV0d dc0d pm0d an0d cd0d ct0d),sl0d⟩)
   (c0d:PySem.W.codeIn K cd0d "put_cells" = true)
   (k0d:PySem.W.keepIn K (.ref f0d)=true)
   (a0e:PySem.W.nsIn K mainGlobals "first_overlap" = some (some (.ref f0e)))
   (l0e:K.lookup f0e=some ⟨oc0e,od0e,.func (PySem.W.fnOf "first_overlap" "first_overlap" (defArgs sOver) (defBody sOver) (defScope sOver) .none kV0e dc0e pm0e an0e cd0e ct0e),sl0e⟩)
   (c0e:PySem.W.codeIn K cd0e "first_overlap" = true)
   (k0e:PySem.W.keepIn K (.ref f0e)=true)
   (a0f:PySem.W.nsIn K mainGlobals "read_work" = some (some (.ref f0f)))
   (l0f:K.lookup f0f=some ⟨oc0f,od0f,.func (PySem.W.fnOf "read_work" "read_work" (defArgs sWork) (defBody sWork) (defScope sWork) .none kV0f dc0f pm0f an0f cd0f ct0f),sl0f⟩)
   (c0f:PySem.W.codeIn K cd0f "read_work" = true)
   (k0f:PySem.W.keepIn K (.ref f0f)=true)
   (a0g:PySem.W.nsIn K mainGlobals "judge" = some (some (.ref f0g)))
   (l0g:K.lookup f0g=some ⟨oc0g,od0g,.func (PySem.W.fnOf "judge" "judge" (defArgs sJudge) (defBody sJudge) (defScope sJudge) .none kV0g dc0g pm0g an0g cd0g ct0g),sl0g⟩)
   (c0g:PySem.W.codeIn K cd0g "judge" = true)
   (k0g:PySem.W.keepIn K (.ref f0g)=true)
   (a0h:PySem.W.nsIn K mainGlobals "Part" = some (some (.ref CP)))
   (ai0h:PySem.W.findIn K (.ref CP) "__init__" = some (some (.ref i0h)))
   (ii0h:PySem.W.isFn K (.ref i0h)=true)
   (l0h:K.lookup i0h=some ⟨oc0h,od0h,.func (PySem.W.fnOf "__init__" "Part.__init__" (defArgs sPartI) (defBody sPartI) (defScope sPartI) .none kV0h dc0h pm0h an0h cd0h ct0h),sl0h⟩)
   (c0h:PySem.W.codeIn K cd0h "Part.__init__" = true)
   (k0h:PySem.W.keepIn K (.ref i0h)=true)
   (pg0h:PySem.W.plainGet K CP Str.empty=true)
   (hd0h:PySem.W.hasDictIn K CP=true)
   (po0h:PySem.W.plainOver K CP=true)
   (sa0h:PySem.W.findIn K (.ref CP) "__setattr__" = some (some (.builtin "object.__setattr__")))
   (mk0h:PySem.W.makesIn K CP=true)
   (kc0h:PySem.W.keepIn K (.ref CP)=true)
   (n0hsizes:PySem.W.findIn K (.ref CP) "sizes" = some none)
   (n0hcuts:PySem.W.findIn K (.ref CP) "cuts" = some none)
   (n0hrows:PySem.W.findIn K (.ref CP) "rows" = some none)
   (a0i:PySem.W.nsIn K mainGlobals "Put" = some (some (.ref CU)))
   (ai0i:PySem.W.findIn K (.ref CU) "__init__" = some (some (.ref i0i)))
   (ii0i:PySem.W.isFn K (.ref i0i)=true)
   (l0i:K.lookup i0i=some ⟨oc0i,od0i,.func (PySem.W.fnOf "__init__" "Put.__init__" (defArgs sPutI) (defBody sPutI) (defScope sPutI) .none kV0i dc0i pm0i an0i cd0i ct0i),sl0i⟩)
   (c0i:PySem.W.codeIn K cd0i "Put.__init__" = true)
   (k0i:PySem.W.keepIn K (.ref i0i)=true)
   (pg0i:PySem.W.plainGet K CU Str.empty=true)
   (hd0i:PySem.W.hasDictIn K CU=true)
   (po0i:PySem.W.plainOver K CU=true)
   (sa0i:PySem.W.findIn K (.ref CU) "__setattr__" = some (some (.builtin "object.__setattr__")))
   (mk0i:PySem.W.makesIn K CU=true)
   (kc0i:PySem.W.keepIn K (.ref CU)=true)
   (n0ipart:PySem.W.findIn K (.ref CU) "part" = some none)
   (n0iways:PySem.W.findIn K (.ref CU) "ways" = some none)
   (n0icorner:PySem.W.findIn K (.ref CU) "corner" = some none)
   (a0j:PySem.W.nsIn K mainGlobals "Work" = some (some (.ref CW)))
   (ai0j:PySem.W.findIn K (.ref CW) "__init__" = some (some (.ref i0j)))
   (ii0j:PySem.W.isFn K (.ref i0j)=true)
   (l0j:K.lookup i0j=some ⟨oc0j,od0j,.func (PySem.W.fnOf "__init__" "Work.__init__" (defArgs sWorkI) (defBody sWorkI) (defScope sWorkI) .none kV0j dc0j pm0j an0j cd0j ct0j),sl0j⟩)
   (c0j:PySem.W.codeIn K cd0j "Work.__init__" = true)
   (k0j:PySem.W.keepIn K (.ref i0j)=true)
   (pg0j:PySem.W.plainGet K CW Str.empty=true)
   (hd0j:PySem.W.hasDictIn K CW=true)
   (po0j:PySem.W.plainOver K CW=true)
   (sa0j:PySem.W.findIn K (.ref CW) "__setattr__" = some (some (.builtin "object.__setattr__")))
   (mk0j:PySem.W.makesIn K CW=true)
   (kc0j:PySem.W.keepIn K (.ref CW)=true)
   (n0jparts:PySem.W.findIn K (.ref CW) "parts" = some none)
   (n0jlatest:PySem.W.findIn K (.ref CW) "latest" = some none)
   (n0jputs:PySem.W.findIn K (.ref CW) "puts" = some none)
   (n0jcells:PySem.W.findIn K (.ref CW) "cells" = some none)
   (n0jrefusal:PySem.W.findIn K (.ref CW) "refusal" = some none)
   (v00:PySem.W.nsIn K mainGlobals "LONGEST_NAME" = some (some (.int 12 t00)))
   (v01:PySem.W.nsIn K mainGlobals "NO_NUMBER" = some (some (.int (-1) t01)))
   (v02:PySem.W.nsIn K mainGlobals "HUGE" = some (some (.int 10000 t02)))
   (v03:PySem.W.nsIn K mainGlobals "NO_FAULT" = some (some (.int 0 t03)))
   (v04:PySem.W.nsIn K mainGlobals "NOT_FORMED" = some (some (.int 1 t04)))
   (v05:PySem.W.nsIn K mainGlobals "TOO_MUCH" = some (some (.int 2 t05)))
   (v06:PySem.W.nsIn K mainGlobals "CANT_STAND" = some (some (.int 3 t06)))
   (v07:PySem.W.nsIn K mainGlobals "CLASHES" = some (some (.int 4 t07)))
   (v08:PySem.W.nsIn K mainGlobals "MOST_PARTS" = some (some (.int 32 t08)))
   (v09:PySem.W.nsIn K mainGlobals "MOST_CUTS" = some (some (.int 64 t09)))
   (v0a:PySem.W.nsIn K mainGlobals "MOST_PUTS" = some (some (.int 32 t0a)))
   (v0b:PySem.W.nsIn K mainGlobals "LONGEST_SIDE" = some (some (.int 16 t0b)))
   (v0c:PySem.W.nsIn K mainGlobals "FARTHEST_CORNER" = some (some (.int 48 t0c)))
   (v0d:PySem.W.nsIn K mainGlobals "TOO_LONG" = some (some (.int (-2) t0d)))
   (v0e:PySem.W.nsIn K mainGlobals "FAULTY" = some (some (.int (-6) t0e)))
   (v0f:PySem.W.nsIn K mainGlobals "OVERLAPPING" = some (some (.int (-9) t0f)))
   (v0g:PySem.W.nsIn K mainGlobals "MOST_BYTES" = some (some (.int 65536 t0g)))
   (v0h:PySem.W.nsIn K mainGlobals "NO_SIGN" = some (some (.str "?" t0h)))
   (v0i:PySem.W.nsIn K mainGlobals "SIGNS" = some (some (.str "\n 0123456789abcdefghijklmnopqrstuvwxyz" t0i)))
   (v0j:PySem.W.nsIn K mainGlobals "WAY_SIGNS" = some (some (.str "rlbfud" t0j)))
   (z_len:PySem.W.nsIn K mainGlobals "len" = some none)
   (z_int:PySem.W.nsIn K mainGlobals "int" = some none)
   (z_all:PySem.W.nsIn K mainGlobals "all" = some none)
   (z_ord:PySem.W.nsIn K mainGlobals "ord" = some none)
   (z_range:PySem.W.nsIn K mainGlobals "range" = some none)
   (z_any:PySem.W.nsIn K mainGlobals "any" = some none)
   (z_enumerate:PySem.W.nsIn K mainGlobals "enumerate" = some none)
   (v_GRAINS:PySem.W.nsIn K mainGlobals "GRAINS" = some (some (.ref aG)))
   (l_G:K.lookup aG=some ⟨.type "tuple",none,.seq #[.str "x" t_G0,.str "y" t_G1,.str "z" t_G2] n_G,sl_G⟩)
   (v_STRIDES:PySem.W.nsIn K mainGlobals "STRIDES" = some (some (.ref aS)))
   (l_S:K.lookup aS=some ⟨.type "tuple",none,.seq #[.int 1 t_S0,.int 64 t_S1,.int 4096 t_S2] n_S,sl_S⟩)
   (v_STEPS:PySem.W.nsIn K mainGlobals "WAY_STEPS" = some (some (.ref aW)))
   (l_W:K.lookup aW=some ⟨.type "tuple",none,.seq #[.ref p0,.ref p1,.ref p2,.ref p3,.ref p4,.ref p5] n_W,sl_W⟩)
   (l_p0:K.lookup p0=some ⟨.type "tuple",none,.seq #[.int 1 t_p0_0,.int 0 t_p0_1,.int 0 t_p0_2] n_p0,sl_p0⟩)
   (l_p1:K.lookup p1=some ⟨.type "tuple",none,.seq #[.int (-1) t_p1_0,.int 0 t_p1_1,.int 0 t_p1_2] n_p1,sl_p1⟩)
   (l_p2:K.lookup p2=some ⟨.type "tuple",none,.seq #[.int 0 t_p2_0,.int 1 t_p2_1,.int 0 t_p2_2] n_p2,sl_p2⟩)
   (l_p3:K.lookup p3=some ⟨.type "tuple",none,.seq #[.int 0 t_p3_0,.int (-1) t_p3_1,.int 0 t_p3_2] n_p3,sl_p3⟩)
   (l_p4:K.lookup p4=some ⟨.type "tuple",none,.seq #[.int 0 t_p4_0,.int 0 t_p4_1,.int 1 t_p4_2] n_p4,sl_p4⟩)
   (l_p5:K.lookup p5=some ⟨.type "tuple",none,.seq #[.int 0 t_p5_0,.int 0 t_p5_1,.int (-1) t_p5_2] n_p5,sl_p5⟩) :
   ∃ fd:FuncData,(∀ (s:Shared) (us:List Value),us.length=(["text"]:List Str).length→BindsTo s fd ⟨us,[]⟩ ((["text"]:List Str).zip us))∧∀ base:Heap,K.In base→base.Ns mainGlobals mg→FnOk P w K mg base CX0 7 fa fd ["text"] (spJudge K):=by
 have e:=hfa.symm.trans (PySem.W.mg_of X G a0g);cases e;have F00:=fun_mk (st:=sSplit) l00 c00 k00;have b00:=F00.binds (ps:=["text"]) fun _ _ _ _ _ _ us hl=>ln1 us hl fun _=>rfl;have F01:=fun_mk (st:=sIsName) l01 c01 k01;have b01:=F01.binds (ps:=["word"]) fun _ _ _ _ _ _ us hl=>ln1 us hl fun _=>rfl;have F02:=fun_mk (st:=sNumber) l02 c02 k02;have b02:=F02.binds (ps:=["word"]) fun _ _ _ _ _ _ us hl=>ln1 us hl fun _=>rfl;have F03:=fun_mk (st:=sNumbers) l03 c03 k03;have b03:=F03.binds (ps:=["words"]) fun _ _ _ _ _ _ us hl=>ln1 us hl fun _=>rfl;have F04:=fun_mk (st:=sWithin) l04 c04 k04;have b04:=F04.binds (ps:=["numbers","least","most"]) fun _ _ _ _ _ _ us hl=>ln3 us hl fun _ _ _=>rfl;have F05:=fun_mk (st:=sCross) l05 c05 k05;have b05:=F05.binds (ps:=["a","b"]) fun _ _ _ _ _ _ us hl=>ln2 us hl fun _ _=>rfl;have F06:=fun_mk (st:=sWays) l06 c06 k06;have b06:=F06.binds (ps:=["word"]) fun _ _ _ _ _ _ us hl=>ln1 us hl fun _=>rfl;have F07:=fun_mk (st:=sPart) l07 c07 k07;have b07:=F07.binds (ps:=["work","words"]) fun _ _ _ _ _ _ us hl=>ln2 us hl fun _ _=>rfl;have F08:=fun_mk (st:=sCut) l08 c08 k08;have b08:=F08.binds (ps:=["work","words"]) fun _ _ _ _ _ _ us hl=>ln2 us hl fun _ _=>rfl;have F09:=fun_mk (st:=sCutA) l09 c09 k09;have b09:=F09.binds (ps:=["part","corner","lengths"]) fun _ _ _ _ _ _ us hl=>ln3 us hl fun _ _ _=>rfl;have F0a:=fun_mk (st:=sPut) l0a c0a k0a;have b0a:=F0a.binds (ps:=["work","words"]) fun _ _ _ _ _ _ us hl=>ln2 us hl fun _ _=>rfl;have F0b:=fun_mk (st:=sLine) l0b c0b k0b;have b0b:=F0b.binds (ps:=["work","line"]) fun _ _ _ _ _ _ us hl=>ln2 us hl fun _ _=>rfl;have F0c:=fun_mk (st:=sLines) l0c c0c k0c;have b0c:=F0c.binds (ps:=["work","text"]) fun _ _ _ _ _ _ us hl=>ln2 us hl fun _ _=>rfl;have F0d:=fun_mk (st:=sCells) l0d c0d k0d;have b0d:=F0d.binds (ps:=["put"]) fun _ _ _ _ _ _ us hl=>ln1 us hl fun _=>rfl;have F0e:=fun_mk (st:=sOver) l0e c0e k0e;have b0e:=F0e.binds (ps:=["puts"]) fun _ _ _ _ _ _ us hl=>ln1 us hl fun _=>rfl;have F0f:=fun_mk (st:=sWork) l0f c0f k0f;have b0f:=F0f.binds (ps:=["text"]) fun _ _ _ _ _ _ us hl=>ln1 us hl fun _=>rfl;have F0g:=fun_mk (st:=sJudge) l0g c0g k0g;have b0g:=F0g.binds (ps:=["text"]) fun _ _ _ _ _ _ us hl=>ln1 us hl fun _=>rfl;have F0h:=fun_mk (st:=sPartI) l0h c0h k0h;have b0h:=F0h.binds (ps:=["self","sizes"]) fun _ _ _ _ _ _ us hl=>ln2 us hl fun _ _=>rfl;have F0i:=fun_mk (st:=sPutI) l0i c0i k0i;have b0i:=F0i.binds (ps:=["self","part","ways","corner"]) fun _ _ _ _ _ _ us hl=>ln4 us hl fun _ _ _ _=>rfl;have F0j:=fun_mk (st:=sWorkI) l0j c0j k0j;have b0j:=F0j.binds (ps:=["self"]) fun _ _ _ _ _ _ us hl=>ln1 us hl fun _=>rfl;have T:Txt K mg:=⟨(PySem.W.mg_none_of X G z_len),(PySem.W.mg_none_of X G z_int),(PySem.W.mg_none_of X G z_all),⟨_,(PySem.W.mg_of X G v00)⟩,⟨_,(PySem.W.mg_of X G v01)⟩,⟨_,(PySem.W.mg_of X G v02)⟩⟩;have T2:Txt2 K mg:=⟨(PySem.W.mg_none_of X G z_ord),⟨_,(PySem.W.mg_of X G v0h)⟩,⟨_,(PySem.W.mg_of X G v0i)⟩⟩;have sq3:∀ (a:Addr) (t:Tri) (n:Nat) (sl:Array (Option Value)) (x y z:Tok),K.lookup a=some ⟨.type "tuple",none,.seq #[.int t.1 x,.int t.2.1 y,.int t.2.2 z] n,sl⟩→∀ H,SqT K H a (v3 t):=fun a t n sl x y z e H=>.inr ⟨_,_,_,e,rfl,rfl,(by show 3≤sizeLine; decide),.cons ⟨_,rfl⟩ (.cons ⟨_,rfl⟩ (.cons ⟨_,rfl⟩ .nil))⟩
 have T3:Txt3 K mg aW [p0,p1,p2,p3,p4,p5]:=by
   refine ⟨⟨_,(PySem.W.mg_of X G v0j)⟩,(PySem.W.mg_of X G v_STEPS),fun H=>.inr ⟨_,_,_,l_W,rfl,rfl,(by show 6≤sizeLine; decide),.cons rfl (.cons rfl (.cons rfl (.cons rfl (.cons rfl (.cons rfl .nil)))))⟩,fun H=>.inr (.inl ⟨rfl,_,l_W,rfl,rfl⟩),rfl,?_⟩;exact at_cons (P:=fun p t=>∀ H,SqT K H p (v3 t)) (sq3 _ (1,0,0) _ _ _ _ _ l_p0) (at_cons (sq3 _ (-1,0,0) _ _ _ _ _ l_p1) (at_cons (sq3 _ (0,1,0) _ _ _ _ _ l_p2) (at_cons (sq3 _ (0,-1,0) _ _ _ _ _ l_p3) (at_cons (sq3 _ (0,0,1) _ _ _ _ _ l_p4) (at_cons (sq3 _ (0,0,-1) _ _ _ _ _ l_p5) (at_nil))))))
 have TP:TxtP K mg CP:=⟨⟨pg0h,hd0h,po0h,sa0h⟩,n0hsizes,n0hcuts,n0hrows,(PySem.W.mg_of X G a0h)⟩;have TU:TxtU K mg CU:=⟨⟨pg0i,hd0i,po0i,sa0i⟩,n0ipart,n0iways,n0icorner,(PySem.W.mg_of X G a0i)⟩;have TW:TxtW K mg CW:=⟨⟨pg0j,hd0j,po0j,sa0j⟩,n0jparts,n0jlatest,n0jputs,n0jcells,n0jrefusal,(PySem.W.mg_of X G a0j)⟩;have TR:TxtR K mg aG:=⟨(PySem.W.mg_none_of X G z_any),(PySem.W.mg_none_of X G z_enumerate),⟨_,(PySem.W.mg_of X G v03)⟩,⟨_,(PySem.W.mg_of X G v04)⟩,⟨_,(PySem.W.mg_of X G v05)⟩,⟨_,(PySem.W.mg_of X G v06)⟩,⟨_,(PySem.W.mg_of X G v07)⟩,⟨_,(PySem.W.mg_of X G v08)⟩,⟨_,(PySem.W.mg_of X G v09)⟩,⟨_,(PySem.W.mg_of X G v0a)⟩,⟨_,(PySem.W.mg_of X G v0b)⟩,⟨_,(PySem.W.mg_of X G v0c)⟩,(PySem.W.mg_of X G v_GRAINS),fun H=>.inr ⟨_,_,_,l_G,rfl,rfl,(by show 3≤sizeLine; decide),.cons ⟨_,rfl⟩ (.cons ⟨_,rfl⟩ (.cons ⟨_,rfl⟩ .nil))⟩⟩;have TC:TxtC K mg:=⟨(PySem.W.mg_none_of X G z_range)⟩;have TS:TxtS K mg aS:=⟨(PySem.W.mg_of X G v_STRIDES),fun H=>.inr ⟨_,_,_,l_S,rfl,rfl,(by show 3≤sizeLine; decide),.cons ⟨_,rfl⟩ (.cons ⟨_,rfl⟩ (.cons ⟨_,rfl⟩ .nil))⟩⟩;have TJ:TxtJ K mg:=⟨⟨_,(PySem.W.mg_of X G v0d)⟩,⟨_,(PySem.W.mg_of X G v0e)⟩,⟨_,(PySem.W.mg_of X G v0f)⟩,⟨_,(PySem.W.mg_of X G v0g)⟩⟩;refine ⟨PySem.W.fnOf "judge" "judge" (defArgs sJudge) (defBody sJudge) (defScope sJudge) .none kV0g dc0g pm0g an0g cd0g ct0g,fun s us hu=>ln1 us hu fun _=>.of_eq rfl,fun base _ _=>?_⟩;have C_is:=Cal.mk (P:=P) (w:=w) (K:=K) (mg:=mg) (base:=base) ⟨_,_,ok_is_name F01 T,b01,PySem.W.mg_of X G a01,k01⟩;have G_nm:FnOk P w K mg base CX0 1 _ _ ["word"] spNumber:=ok_number F02 T;have C_ns:=Cal.mk (P:=P) (w:=w) (K:=K) (mg:=mg) (base:=base) ⟨_,_,ok_numbers F03 T G_nm b02 (PySem.W.mg_of X G a02) k02,b03,PySem.W.mg_of X G a03,k03⟩;have C_al:=Cal.mk (P:=P) (w:=w) (K:=K) (mg:=mg) (base:=base) ⟨_,_,ok_within F04 T,b04,PySem.W.mg_of X G a04,k04⟩;have C_sp:=Cal.mk (P:=P) (w:=w) (K:=K) (mg:=mg) (base:=base) ⟨_,_,ok_split F00 T2,b00,PySem.W.mg_of X G a00,k00⟩;have G_cr:FnOk P w K mg base CX0 1 _ _ ["a","b"] (spCross K):=ok_cross F05;have C_wy:=Cal.mk (P:=P) (w:=w) (K:=K) (mg:=mg) (base:=base) ⟨_,_,ok_ways F06 T T3 G_cr b05 (PySem.W.mg_of X G a05) k05,b06,PySem.W.mg_of X G a06,k06⟩;have M_p:=Mkr.mk (P:=P) (w:=w) (K:=K) (mg:=mg) (base:=base) ⟨_,_,⟨mk0h,ai0h,ii0h,kc0h⟩,ok_partI F0h TP,b0h,PySem.W.mg_of X G a0h⟩;have M_u:=Mkr.mk (P:=P) (w:=w) (K:=K) (mg:=mg) (base:=base) ⟨_,_,⟨mk0i,ai0i,ii0i,kc0i⟩,ok_putI F0i TU,b0i,PySem.W.mg_of X G a0i⟩;have M_w:=Mkr.mk (P:=P) (w:=w) (K:=K) (mg:=mg) (base:=base) ⟨_,_,⟨mk0j,ai0j,ii0j,kc0j⟩,ok_workI F0j TW,b0j,PySem.W.mg_of X G a0j⟩;have C_pa:=Cal.mk (P:=P) (w:=w) (K:=K) (mg:=mg) (base:=base) ⟨_,_,ok_part (CU:=CU) F07 T TR TW C_ns C_is C_al M_p,b07,PySem.W.mg_of X G a07,k07⟩;have C_ca:=Cal.mk (P:=P) (w:=w) (K:=K) (mg:=mg) (base:=base) ⟨_,_,ok_cutA F09 TC TP,b09,PySem.W.mg_of X G a09,k09⟩;have C_cu:=Cal.mk (P:=P) (w:=w) (K:=K) (mg:=mg) (base:=base) ⟨_,_,ok_cut (CU:=CU) F08 T TR TC TW TP C_ns C_al C_ca,b08,PySem.W.mg_of X G a08,k08⟩;have C_pu:=Cal.mk (P:=P) (w:=w) (K:=K) (mg:=mg) (base:=base) ⟨_,_,ok_put (CP:=CP) F0a T TR TW C_ns C_is C_al C_wy M_u,b0a,PySem.W.mg_of X G a0a,k0a⟩;have C_li:=Cal.mk (P:=P) (w:=w) (K:=K) (mg:=mg) (base:=base) ⟨_,_,ok_line F0b TR C_pa C_cu C_pu,b0b,PySem.W.mg_of X G a0b,k0b⟩;have C_ls:=Cal.mk (P:=P) (w:=w) (K:=K) (mg:=mg) (base:=base) ⟨_,_,ok_lines F0c T TR C_sp C_li,b0c,PySem.W.mg_of X G a0c,k0c⟩;have C_ce:=Cal.mk (P:=P) (w:=w) (K:=K) (mg:=mg) (base:=base) ⟨_,_,ok_cells F0d TR TC TS TP TU,b0d,PySem.W.mg_of X G a0d,k0d⟩;have C_ov:=Cal.mk (P:=P) (w:=w) (K:=K) (mg:=mg) (base:=base) ⟨_,_,ok_over F0e TR,b0e,PySem.W.mg_of X G a0e,k0e⟩;have C_wk:=Cal.mk (P:=P) (w:=w) (K:=K) (mg:=mg) (base:=base) ⟨_,_,ok_work (aG:=aG) F0f T TJ TW M_w C_ls C_ce C_ov,b0f,PySem.W.mg_of X G a0f,k0f⟩;exact ok_judge F0g TW C_wk
end Ho
end
namespace PySem.W.Fast
end PySem.W.Fast
open PySem PySem.W PyProof.Rows
set_option maxRecDepth 100000 in
set_option maxHeartbeats 0 in
theorem PySem.Challenge.cw_holding_s01_judge_holds : PySem.Challenge.rw_holding_s01_judge.Holds := by
 w_on; k_headS; (case hw => exact ⟨[.list []], by decide +kernel, by decide +kernel⟩)
 k_fillS
 refine L2.walk_specK (r := PySem.Challenge.rw_holding_s01_judge) (k := 7) (CX := L2.CX0) (ps := ["text"]) (sp := Ho.spJudge) (by decide +kernel) rfl rfl ⟨rfl, by decide, by decide⟩ (fun w h Y => PySem.W.kIn_of Y) ?F ?S (fun _ _ _ _ z => z)
 case F =>
   intro w mg fa h Y KX G hmg
   refine' Ho.all_mk KX G hmg ?a00 ?l00 ?c00 ?k00 ?a01 ?l01 ?c01 ?k01 ?a02 ?l02 ?c02 ?k02 ?a03 ?l03 ?c03 ?k03 ?a04 ?l04 ?c04 ?k04 ?a05 ?l05 ?c05 ?k05 ?a06 ?l06 ?c06 ?k06 ?a07 ?l07 ?c07 ?k07 ?a08 ?l08 ?c08 ?k08 ?a09 ?l09 ?c09 ?k09 ?a0a ?l0a ?c0a ?k0a ?a0b ?l0b ?c0b ?k0b ?a0c ?l0c ?c0c ?k0c ?a0d ?l0d ?c0d ?k0d ?a0e ?l0e ?c0e ?k0e ?a0f ?l0f ?c0f ?k0f ?a0g ?l0g ?c0g ?k0g ?a0h ?ai0h ?ii0h ?l0h ?c0h ?k0h ?pg0h ?hd0h ?po0h ?sa0h ?mk0h ?kc0h ?n0hsizes ?n0hcuts ?n0hrows ?a0i ?ai0i ?ii0i ?l0i ?c0i ?k0i ?pg0i ?hd0i ?po0i ?sa0i ?mk0i ?kc0i ?n0ipart ?n0iways ?n0icorner ?a0j ?ai0j ?ii0j ?l0j ?c0j ?k0j ?pg0j ?hd0j ?po0j ?sa0j ?mk0j ?kc0j ?n0jparts ?n0jlatest ?n0jputs ?n0jcells ?n0jrefusal ?v00 ?v01 ?v02 ?v03 ?v04 ?v05 ?v06 ?v07 ?v08 ?v09 ?v0a ?v0b ?v0c ?v0d ?v0e ?v0f ?v0g ?v0h ?v0i ?v0j ?z_len ?z_int ?z_all ?z_ord ?z_range ?z_any ?z_enumerate ?v_GRAINS ?l_G ?v_STRIDES ?l_S ?v_STEPS ?l_W ?l_p0 ?l_p1 ?l_p2 ?l_p3 ?l_p4 ?l_p5
   (case a00 => k_is)
   (case l00 => k_is)
   (case c00 => k_is)
   (case k00 => k_is)
   (case a01 => k_is)
   (case l01 => k_is)
   (case c01 => k_is)
   (case k01 => k_is)
   (case a02 => k_is)
   (case l02 => k_is)
   (case c02 => k_is)
   (case k02 => k_is)
   (case a03 => k_is)
   (case l03 => k_is)
   (case c03 => k_is)
   (case k03 => k_is)
   (case a04 => k_is)
   (case l04 => k_is)
   (case c04 => k_is)
   (case k04 => k_is)
   (case a05 => k_is)
   (case l05 => k_is)
   (case c05 => k_is)
   (case k05 => k_is)
   (case a06 => k_is)
   (case l06 => k_is)
   (case c06 => k_is)
   (case k06 => k_is)
   (case a07 => k_is)
   (case l07 => k_is)
   (case c07 => k_is)
   (case k07 => k_is)
   (case a08 => k_is)
   (case l08 => k_is)
   (case c08 => k_is)
   (case k08 => k_is)
   (case a09 => k_is)
   (case l09 => k_is)
   (case c09 => k_is)
   (case k09 => k_is)
   (case a0a => k_is)
   (case l0a => k_is)
   (case c0a => k_is)
   (case k0a => k_is)
   (case a0b => k_is)
   (case l0b => k_is)
   (case c0b => k_is)
   (case k0b => k_is)
   (case a0c => k_is)
   (case l0c => k_is)
   (case c0c => k_is)
   (case k0c => k_is)
   (case a0d => k_is)
   (case l0d => k_is)
   (case c0d => k_is)
   (case k0d => k_is)
   (case a0e => k_is)
   (case l0e => k_is)
   (case c0e => k_is)
   (case k0e => k_is)
   (case a0f => k_is)
   (case l0f => k_is)
   (case c0f => k_is)
   (case k0f => k_is)
   (case a0g => k_is)
   (case l0g => k_is)
   (case c0g => k_is)
   (case k0g => k_is)
   (case a0h => k_is)
   (case ai0h => k_is)
   (case ii0h => k_is)
   (case l0h => k_is)
   (case c0h => k_is)
   (case k0h => k_is)
   (case pg0h => k_is)
   (case hd0h => k_is)
   (case po0h => k_is)
   (case sa0h => k_is)
   (case mk0h => k_is)
   (case kc0h => k_is)
   (case n0hsizes => k_is)
   (case n0hcuts => k_is)
   (case n0hrows => k_is)
   (case a0i => k_is)
   (case ai0i => k_is)
   (case ii0i => k_is)
   (case l0i => k_is)
   (case c0i => k_is)
   (case k0i => k_is)
   (case pg0i => k_is)
   (case hd0i => k_is)
   (case po0i => k_is)
   (case sa0i => k_is)
   (case mk0i => k_is)
   (case kc0i => k_is)
   (case n0ipart => k_is)
   (case n0iways => k_is)
   (case n0icorner => k_is)
   (case a0j => k_is)
   (case ai0j => k_is)
   (case ii0j => k_is)
   (case l0j => k_is)
   (case c0j => k_is)
   (case k0j => k_is)
   (case pg0j => k_is)
   (case hd0j => k_is)
   (case po0j => k_is)
   (case sa0j => k_is)
   (case mk0j => k_is)
   (case kc0j => k_is)
   (case n0jparts => k_is)
   (case n0jlatest => k_is)
   (case n0jputs => k_is)
   (case n0jcells => k_is)
   (case n0jrefusal => k_is)
   (case v00 => k_is)
   (case v01 => k_is)
   (case v02 => k_is)
   (case v03 => k_is)
   (case v04 => k_is)
   (case v05 => k_is)
   (case v06 => k_is)
   (case v07 => k_is)
   (case v08 => k_is)
   (case v09 => k_is)
   (case v0a => k_is)
   (case v0b => k_is)
   (case v0c => k_is)
   (case v0d => k_is)
   (case v0e => k_is)
   (case v0f => k_is)
   (case v0g => k_is)
   (case v0h => k_is)
   (case v0i => k_is)
   (case v0j => k_is)
   (case z_len => k_is)
   (case z_int => k_is)
   (case z_all => k_is)
   (case z_ord => k_is)
   (case z_range => k_is)
   (case z_any => k_is)
   (case z_enumerate => k_is)
   (case v_GRAINS => k_is)
   (case l_G => k_is)
   (case v_STRIDES => k_is)
   (case l_S => k_is)
   (case v_STEPS => k_is)
   (case l_W => k_is)
   (case l_p0 => k_is)
   (case l_p1 => k_is)
   (case l_p2 => k_is)
   (case l_p3 => k_is)
   (case l_p4 => k_is)
   (case l_p5 => k_is)
 case S =>
   intro K H xs a hO hwi hask hx
   cases hx with
   | cons h1 h2 =>
     cases h2
     cases h1 with
     | lst hs ha =>
       have e := L2.ints_dw a.1 _ ha
       subst e
       have q : ((Codec.inLen 0 65600 a.1 && a.1.all (Codec.inInt 0 255)) && true) = true := hwi
       rw [Bool.and_eq_true, Bool.and_eq_true] at q
       have hb : ∀ n ∈ a.1, 0 ≤ n ∧ n ≤ 255 := fun n hn => Codec.inInt_iff.mp (List.all_eq_true.mp q.1.2 n hn)
       refine ⟨_, a.1, rfl, hs, (Codec.inNat_iff.mp q.1.1).2, hb, fun H' p hp => ?_⟩
       have e : Ho.judge a.1 = PyWqatdf.judge a.1 := Ho.judge_spec a.1 hb
       rw [e] at hp
       exact .lst (L2.SqL.of hp) (L2.dw_ints _)
#print axioms PySem.Challenge.cw_holding_s01_judge_holds
