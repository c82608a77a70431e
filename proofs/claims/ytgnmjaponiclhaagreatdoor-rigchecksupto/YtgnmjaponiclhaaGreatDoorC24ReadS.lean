import Derived.Test.YtgnmjaponiclhaaGreatDoorC23FracQ
import Derived.Deep.Slices
import Derived.KernelRfl
namespace Go.Proofs.YtgnmjaponiclhaaGreatDoor
open Go.RowKit
set_option linter.unusedVariables false
set_option linter.unusedSimpArgs false
structure Glob (w:World):Prop where
 most:∃m,w.cell? ⟨5,0,none⟩=some (.int .i64 m)
 tab:Tab w
theorem Glob.below{w w':World}(h:Glob w)(hb:Below w.heap.size w w'):Glob w':=by
 obtain⟨m,hm⟩:=h.most
 exact⟨⟨m,(hb.cell (p:=⟨5,0,none⟩) (World.block_lt_of_cell? _ _ hm)).trans hm⟩,h.tab.below hb⟩
structure FE where
 x:Value
 y:Value
 z:Value
 q:Rat
 k:Nat
structure FBag (w0 w:World) (L:List FE):Prop where
 base:Below w0.heap.size w0 w
 glob:Glob w0
 ts:∀t,t∈ L→FracV w (.agg #[t.x,t.y,t.z]) t.q∧Fits t.q t.k∧0<t.k
theorem FBag.start{w:World}(h:Glob w):FBag w w []:=⟨Below.refl _ _,h,fun t ht=>by cases ht⟩
theorem FBag.below{w0 w w':World}{L:List FE}(h:FBag w0 w L)(hb:Below w.heap.size w w'):FBag w0 w' L:=
 ⟨h.base.trans (hb.mono h.base.size),h.glob,fun t ht=>⟨(h.ts t ht).1.below hb,(h.ts t ht).2⟩⟩
theorem FBag.drew{w0 w:World}{L:List FE}(h:FBag w0 w L):FBag w0 w.drew L:=h.below (Below.refl _ _).drew
theorem FBag.globNow{w0 w:World}{L:List FE}(h:FBag w0 w L):Glob w:=h.glob.below h.base
theorem FBag.get{w0 w:World}{L:List FE}{x y z:Value}{q:Rat}{k:Nat}(h:FBag w0 w L)(hx:⟨x,y,z,q,k⟩∈ L):FracV w (.agg #[x,y,z]) q∧Fits q k∧0<k:=h.ts _ hx
theorem FBag.put{w0 w:World}{L:List FE}{x y z:Value}{q:Rat}{k:Nat}(h:FBag w0 w L)(hv:FracV w (.agg #[x,y,z]) q)(hf:Fits q k)(hk:0<k):FBag w0 w (⟨x,y,z,q,k⟩ :: L):=
 ⟨h.base,h.glob,fun t ht=>by
   rcases List.mem_cons.1 ht with rfl|ht
   · exact⟨hv,hf,hk⟩
   · exact h.ts t ht⟩
theorem FBag.only{w0 w w':World}{L:List FE}{g:Nat}{t:TypeId}{C:Array Value}(h:FBag w0 w L)(ho:Only g w w')(hs:SB w g t C)(hn:NoU64 C)(hg:w0.heap.size≤g):FBag w0 w' L:=
 ⟨Only.fresh h.base ho hg,h.glob,fun t ht=>⟨(h.ts t ht).1.only ho hs hn,(h.ts t ht).2⟩⟩
theorem FBag.from{w0 w1 w:World}{L M:List FE}(h:FBag w1 w L)(hb:Below w0.heap.size w0 w1)(hg:Glob w0)(hm:∀t,t∈ M→∃k,⟨t.x,t.y,t.z,t.q,k⟩∈ L∧k≤t.k):FBag w0 w M:=by
 refine⟨hb.trans (h.base.mono hb.size),hg,fun t ht=>?_⟩
 obtain⟨k,hk,hle⟩:=hm t ht
 have:=h.ts _ hk
 exact⟨this.1,this.2.1.mono hle,Nat.lt_of_lt_of_le this.2.2 hle⟩
def FNewB(w0:World)(L:List FE)(q:Rat)(k:Nat)(e:Ending)(w':World):Prop:=∃x y z,e=.returned (.agg #[x,y,z])∧FBag w0 w' (⟨x,y,z,q,k⟩ :: L)
theorem FBag.new{w0 w w':World}{L:List FE}{q:Rat}{k:Nat}{e:Ending}(h:FBag w0 w L)(hn:FNew w q e w')(hf:Fits q k)(hk:0<k):FNewB w0 L q k e w':=by
 obtain⟨⟨v,rfl,neg,a,n,c,b,m,d,rfl,hv⟩,hb⟩:=hn
 exact⟨_,_,_,rfl,(h.below hb).put ⟨neg,a,n,c,b,m,d,rfl,hv⟩ hf hk⟩
theorem FBag.minus{w0 w:World}{L:List FE}{x1 x2 x3 y1 y2 y3:Value}{j k:Nat}{p q:Rat}(h:FBag w0 w L)(hx:⟨x1,x2,x3,p,j⟩∈ L)(hy:⟨y1,y2,y3,q,k⟩∈ L)(hj:j+k<68719476000):
 Calls Tryz.prog 205 #[.agg #[x1,x2,x3],.agg #[y1,y2,y3]] w (FNewB w0 L (p - q) (j+k+1)):=by
 obtain⟨hx,fx,kx⟩:=h.get hx
 obtain⟨hy,fy,ky⟩:=h.get hy
 exact(Qba hx hy fx fy hj).mono fun e w' hn=>h.new hn (fx.sub fy) (by omega)
theorem Fits.div{p q:Rat}{j k:Nat}(h:Fits p j)(h':Fits q k)(hj:0<j)(hk:0<k):Fits (p / q) (j+k):=by
 by_cases hq:q=0
 · rw[hq,Rat.div_def,Rat.inv_zero,Rat.mul_zero];exact Fits.zero.mono (by omega)
 · rw[Rat.div_def];exact h.mul (h'.inv hq) hj
theorem FBag.equal{w0 w:World}{L:List FE}{x1 x2 x3 y1 y2 y3:Value}{j k:Nat}{p q:Rat}(h:FBag w0 w L)(hx:⟨x1,x2,x3,p,j⟩∈ L)(hy:⟨y1,y2,y3,q,k⟩∈ L):
 Calls Tryz.prog 72 #[.agg #[x1,x2,x3],.agg #[y1,y2,y3]] w (fun e w'=>e=.returned (.bool (decide (p=q)))∧FBag w0 w' L):=by
 obtain⟨hx,fx,kx⟩:=h.get hx
 obtain⟨hy,fy,ky⟩:=h.get hy
 refine(Qly hx hy).mono ?_
 rintro e w' ⟨rfl,hb⟩
 exact⟨rfl,h.below hb⟩
theorem FBag.of{w0 w:World}{L:List FE}{n:Nat}(s:ByteArray)(h:FBag w0 w L)(hs:s.size≤n)(hn:n≤1073741824):
 Calls Tryz.prog 149 #[.string s] w (fun e w'=>∃q,QOf s.data.toList q∧FNewB w0 L q (4*n+1) e w'):=by
 obtain⟨m,hm⟩:=h.globNow.most
 refine(Qhx s m w hm (by omega)).mono ?_
 rintro e w' ⟨q,hq,hf⟩
 exact⟨q,hq,h.new hf (hq.fits (by rw[Qae];exact hs)) (by omega)⟩
theorem Qgg{C:Array Value}(h:∀v,v∈ C.toList→∀n,v≠Value.int .u64 n):NoU64 C:=fun i n hi=>h _ (by rw[←Array.getElem?_toList] at hi;exact List.mem_of_getElem? hi) n rfl
theorem Qaq(P:Program){v:Value}(h:v.oneCell'=true):∀(a:Addr) (w:World),(store a v).run P w=stored P w a v .plain:=fun a w=>run_store P w a v .plain h
theorem FracV.one{w:World}{x y z:Value}{q:Rat}(h:FracV w (.agg #[x,y,z]) q):x.oneCell'=true∧y.oneCell'=true∧z.oneCell'=true:=by
 obtain⟨neg,a,n,c,b,m,d,e,_⟩:=h
 simp at e
 obtain⟨rfl,rfl,rfl⟩:=e
 exact⟨rfl,rfl,rfl⟩
theorem FracV.no64{w:World}{x y z:Value}{q:Rat}(h:FracV w (.agg #[x,y,z]) q)(n:Int):x≠.int .u64 n∧y≠.int .u64 n∧z≠.int .u64 n:=by
 obtain⟨neg,a,m,c,b,k,d,e,_⟩:=h
 simp at e
 obtain⟨rfl,rfl,rfl⟩:=e
 exact⟨by simp,by simp,by simp⟩
theorem Tryz.spotInfo:(Tryz.prog.info? 25).map (·.size)=some 2:=by kernel_rfl
end Go.Proofs.YtgnmjaponiclhaaGreatDoor
namespace Go.Proofs.YtgnmjaponiclhaaGreatDoor
open Go
set_option linter.unusedVariables false
section
variable {P:Program} {ops:Array Oper} {Q:Exit→Act→World→Prop} {md:Region.Mode} {S:World→Prop} {k:Nat}
def waits(md:Region.Mode)(ops:Array Oper)(k i:Nat):Bool:=match ops[k]? with
 |some o=>o.after.any (fun e=>Region.binds md e && (e.on == i))
 |none=>false
theorem Qh0{i:Nat}(h:waits md ops k i=true){o:Oper}(ho:ops[k]?=some o):¬∀e∈ o.after,Region.binds md e=true→e.on≠i:=by
 unfold waits at h
 rw[ho] at h
 simp only[Array.any_eq_true] at h
 obtain⟨j,hj,he⟩:=h
 simp only[Bool.and_eq_true,beq_iff_eq] at he
 intro hc
 exact hc _ (Array.getElem_mem hj) he.1 he.2
end
end Go.Proofs.YtgnmjaponiclhaaGreatDoor
namespace Go.Proofs.YtgnmjaponiclhaaGreatDoor
open Go.RowKit
set_option linter.unusedVariables false
set_option linter.unusedSimpArgs false
set_option maxRecDepth 100000 in
theorem Qdq(s t:ByteArray)(w:World):Calls Tryz.prog 18 #[.string s,.string t] w fun e w'=>e=.returned (.agg #[.string s,.string t])∧Below w.heap.size w w':=by
 have HB:=Hi ((Below.refl w.heap.size w).alloc (Nat.le_refl _) (.cells #[.string s,.string t] 25))
 go_enter Tryz.func18,Tryz.ntmps18
 go_wp2
 refine bodyPost_ret (results_cell_row rfl _ _ w.heap.size 25 #[.string s,.string t] (0,0) _ rfl (SB.new w _ _) Tryz.underlying25 rfl Tryz.spotInfo) rfl ?_
 exact⟨rfl,HB.out⟩
theorem Qb0:Tryz.prog.cellsOf 23=1:=by kernel_rfl
theorem Qe6:Tryz.prog.cellsOf 25=2:=by kernel_rfl
section
variable {H:Type} {enc:TypeId × Value→H} {P:Program} {w:World} {base:Nat} {spare:Nat→Bool} {held:Bool} {fuel:Nat} {cs:List Value} {x:DataW H × List MemPlace} {tF tS tQ:TypeId} {f0 f1 g0 g1:Field}
theorem Qic(uS:P.underlying tS=some (.struct #[f0,f1]))(uQ:P.underlying tQ=some .string)(cS:P.cellsOf tS=2)(cQ:P.cellsOf tQ=1)(t0:f0.type=tQ)(t1:f1.type=tQ)(o0:f0.offset=0)(o1:f1.offset=1)
 (h:DataW.trod enc P w base spare held fuel tS cs=some x):
 ∃s t:ByteArray,cs= [.string s,.string t]∧x.1=.agg [.lit (.string s.data.toList),.lit (.string t.data.toList)]∧x.2= []:=by
 obtain⟨xs,n,rfl,rfl,hl,hxl,hf⟩:=DataW.trod_struct uS h
 rw[cS] at hl
 clear h
 have h0:=hf 0 f0 rfl
 have h1:=hf 1 f1 rfl
 rw[t0,o0,cQ] at h0
 rw[t1,o1,cQ] at h1
 clear hf
 match cs,hl,xs,hxl with
 | [v0,v1],_,[y0,y1],_=>
   simp only[List.drop_zero,List.drop_succ_cons,List.take_succ_cons,List.take_zero,List.getElem?_cons_zero,List.getElem?_cons_succ] at h0 h1
   obtain⟨s,e0,rfl,_⟩:=DataW.trod_string uQ h0
   obtain⟨t,e1,rfl,_⟩:=DataW.trod_string uQ h1
   obtain rfl:v0=_:=by simpa using e0
   obtain rfl:v1=_:=by simpa using e1
   exact⟨s,t,rfl,rfl,rfl⟩
end
end Go.Proofs.YtgnmjaponiclhaaGreatDoor
