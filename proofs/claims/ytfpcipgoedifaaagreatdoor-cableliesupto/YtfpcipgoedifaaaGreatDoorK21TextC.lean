/- num's writeChunk. -/
import Derived.Test.YtfpcipgoedifaaaGreatDoorK20TextB
namespace Go.Proofs.YtfpcipgoedifaaaGreatDoor
open Go.RowKit
set_option linter.unusedVariables false
set_option linter.unusedSimpArgs false
def bufOf(w:World)(b:Nat):Option Nat:=(w.cell? ⟨b,1,none⟩).bind Value.ownBlock
structure Wr (b:Nat) (w w':World):Prop where
 size:w.heap.size<=w'.heap.size
 block:∀k,k<w.heap.size->k≠b->bufOf w b≠some k->w'.heap[k]?=w.heap[k]?
 buf:bufOf w' b=bufOf w b∨∃g,w.heap.size<=g/\bufOf w' b=some g
theorem Wr.refl(b:Nat)(w:World):Wr b w w:=⟨Nat.le_refl _,fun _ _ _ _=>rfl,.inl rfl⟩
theorem Wr.keep{b:Nat}{w w':World}(h:Wr b w w'){k:Nat}(hk:k<w.heap.size)(hn:bufOf w b≠some k):bufOf w' b≠some k:=by
 rcases h.buf with h1|⟨g,hg,h1⟩
 · rw[h1];exact hn
 · rw[h1];intro hc;injection hc with hc;omega
theorem Wr.trans{b:Nat}{u v w:World}(h:Wr b u v)(k:Wr b v w):Wr b u w:=by
 refine⟨Nat.le_trans h.size k.size,fun i hi hb hn=>?_,?_⟩
 · rw[k.block i (by have:=h.size;omega) hb (h.keep hi hn)]
   exact h.block i hi hb hn
 ·
  rcases k.buf with h1|⟨g,hg,h1⟩
  · rw[h1];exact h.buf
  · exact .inr ⟨g,by have:=h.size;omega,h1⟩
theorem Wr.below{b:Nat}{w w':World}(hb:b<w.heap.size)(h:Below w.heap.size w w'):Wr b w w':=
 ⟨h.size,fun k hk _ _=>h.block k hk,.inl (by unfold bufOf;rw[h.cell (p:=⟨b,1,none⟩) hb])⟩
theorem BdAt.lt'{B b:Nat}{bs:List Value}{w:World}(h:Bd B b bs w):b<w.heap.size:=by rcases h with h|h<;>exact h.lt
theorem Qld{b:Nat}{w w1 w2:World}{p v v':Value}(hv:w.heap[b]?=some (.cells #[p,v] 209 (0,0)))(h01:Below w.heap.size w w1)(hg:w1.grownBy w2 v.ownBlock)(hat:v'.ownBlock=v.ownBlock∨v'.ownBlock=some w1.heap.size)(hne:v.ownBlock≠some b):Wr b w (w2.setCell ⟨b,1,none⟩ v'):=by
 have hb:b<w.heap.size:=by
  rcases Nat.lt_or_ge b w.heap.size with h'|h'
  · exact h'
  · simp[Array.getElem?_eq_none h'] at hv
 have e0:bufOf w b=v.ownBlock:=by unfold bufOf;rw[Lib.cell_of_heap hv];rfl
 have h1:w1.heap[b]?=some (.cells #[p,v] 209 (0,0)):=by rw[h01.block b hb];exact hv
 have h2:w2.heap[b]?=some (.cells #[p,v] 209 (0,0)):=by rw[hg.block b (by have:=h01.size;omega) (fun e=>hne e.symm)];exact h1
 have e2:bufOf (w2.setCell ⟨b,1,none⟩ v') b=v'.ownBlock:=by
  unfold bufOf;rw[World.cell?_setCell_same _ _ _ (show w2.cell? ⟨b,1,none⟩=some v by rw[Lib.cell_of_heap h2];rfl)];rfl
 refine⟨?_,fun k hk hkb hn=>?_,?_⟩
 ·
  have a1:=h01.size;have a2:=hg.size;simp[World.setCell];omega
 · rw[Below.heap_setCell _ _ _ _ hkb,hg.block k (by have:=h01.size;omega) (fun e=>hn (by rw[e0];exact e.symm)),h01.block k hk]
 ·
  rw[e2,e0];rcases hat with h|h
  · exact .inl h
  · exact .inr ⟨_,h01.size,h⟩
def U8In(C:Array Value):Prop:=∀(i:Nat) u,C[i]?=some u->∃n,u=Value.int .u8 n
def U8Blk(w:World)(v:Value):Prop:=∀g,v.ownBlock=some g->∃C t f,w.heap[g]?=some (.cells C t f)/\U8In C
theorem U8In.append{C D:Array Value}(h:U8In C)(k:U8In D):U8In (C++D):=fun i u hu=>by
 rw[Array.getElem?_append] at hu
 split at hu
 · exact h _ _ hu
 · exact k _ _ hu
theorem U8In.zeros(n:Nat):U8In (Builtin.zeroCells (Value.int .u8 0).cells n):=fun i u hu=>by
 have hm:=Array.mem_of_getElem? hu;simp[Builtin.zeroCells,Value.cells] at hm;obtain⟨j,hj,e⟩:=hm;rw[Nat.mod_one] at e;exact⟨0,e.symm⟩
theorem U8In.list{l:List Value}(h:∀u,u∈ l->∃n,u=Value.int .u8 n):U8In l.toArray:=fun i u hu=>h u (by rw[List.getElem?_toArray] at hu;exact mO hu)
theorem U8In.mem{C:Array Value}(h:U8In C){u:Value}(hu:u∈ C.toList):∃n,u=Value.int .u8 n:=by
 obtain⟨i,hi⟩:=List.mem_iff_getElem?.1 hu;exact h i u (by rw[Array.getElem?_toList] at hi;exact hi)
theorem Qle(s:ByteArray):∀u,u∈ Lib.strCells s->∃n,u=Value.int .u8 n:=fun u hu=>by
 unfold Lib.strCells at hu;obtain⟨c,_,rfl⟩:=List.mem_map.1 hu;exact⟨_,rfl⟩
theorem U8Blk.new(w:World)(C:Array Value)(t:TypeId)(n cap:Nat)(h:U8In C):U8Blk (w.drew.alloc (.cells C t)) (.slice (some ⟨w.heap.size,0,none⟩) n cap):=fun g hg=>by
 have e:w.heap.size=g:=by simpa [Value.ownBlock] using hg
 subst e;exact⟨C,t,_,heap_alloc_new w.drew _,h⟩
theorem U8Blk.row{w:World}{g n cap n' cap':Nat}{cur news:Array Value}{t:TypeId}{f:Nat × Nat}(hg:w.heap[g]?=some (.cells cur t f))(h:U8In news):U8Blk (w.setRow g news) (.slice (some ⟨g,0,none⟩) n cap):=fun g' hg'=>by
 have e:g=g':=by simpa [Value.ownBlock] using hg'
 subst e;exact⟨news,t,f,setRow_heap w g cur _ t _ hg,h⟩
theorem Qvo{w:World}{base:Nat}{v v':Value}{n m cc:Nat}{xs news:List Value}{a:Addr}{w':World}{ty:TypeId}{i:TypeInfo}(hi:Tryz.prog.info? 5=some i)(hz:i.zero=some (.int .u8 0))(hs1:i.size=1)(hby:i.bytes=1)(hown:w.ownsRow base 5 1 v n xs)(hu:U8Blk w v)
 (hl:news.length=m) (hnews:∀j u,news[j]?=some u->w.cell? (a.add j)=some u) (h1:∀u∈ news,u.oneCell'=true) (h8:∀u,u∈ news->∃n,u=Value.int .u8 n) (h0:0<m) (h63:n+m<=140737488355328)
 (hr:(Builtin.append_ #[207,207] ty #[v,.slice (some a) m cc]).run Tryz.prog w=.ok v' w'):U8Blk w' v':=by
 have hxl:xs.length=n:=by simpa using hown.1
 have hown0:=hown;have hl':news.length=m*i.size:=by rw[hs1,Nat.mul_one];exact hl
 rcases hown.2 with ⟨rfl,rfl⟩|⟨g,cap,cur,rfl,hbg,hg,hnc,hcm,hcs,htake⟩
 ·
  rw[run_append_nil (P:=Tryz.prog) w 207 ty 5 i (.int .u8 0) Tryz.underlying207 hi hz a m cc news hl' hnews h0 (by omega) (by rw[hby];omega)] at hr;injection hr with e1 e2
  rw[<-e1,<-e2];exact U8Blk.new _ _ _ _ _ ((U8In.list h8).append (U8In.zeros _))
 ·
  obtain⟨C,tt,ff,hC,hC8⟩:=hu g rfl;rw[hg] at hC;injection hC with hC
  injection hC with hC _ _
  subst hC;by_cases hroom:n+m<=cap
  ·
   rw[run_append_room (P:=Tryz.prog) w 207 ty 5 i Tryz.underlying207 hi g n cap cur hg a m cc news hl' hnews h1 hroom (by rw[hs1];omega)] at hr;injection hr with e1 e2
   rw[<-e1,<-e2];refine U8Blk.row (n':=0) (cap':=0) hg (U8In.list fun u hu=>?_);simp only[List.mem_append] at hu;rcases hu with (hu|hu)|hu
   · exact hC8.mem (List.mem_of_mem_take hu)
   · exact h8 u hu
   · exact hC8.mem (List.mem_of_mem_drop hu)
  ·
   have holds:∀j u,xs[j]?=some u->w.cell? ((⟨g,0,none⟩:Addr).add j)=some u:=hown0.cells (g:=g) rfl;rw[run_append_grow (P:=Tryz.prog) w 207 ty 5 i (.int .u8 0) Tryz.underlying207 hi hz ⟨g,0,none⟩ n cap xs (by rw[hs1];simpa using hxl) holds a m cc news hl' hnews (by omega) (by omega) (by rw[hby];exact growslice_fits (by omega) (by omega))] at hr;injection hr with e1 e2
   rw[<-e1,<-e2];refine U8Blk.new _ _ _ _ _ (((U8In.list fun u hu=>?_).append (U8In.list h8)).append (U8In.zeros _));rw[<-htake] at hu;exact hC8.mem (List.mem_of_mem_take hu)
structure Bd8 (B b:Nat) (l:List UInt8) (w:World):Prop where
 bd:Bd B b (Lib.byteCells l) w
 u8:∀v,w.cell? ⟨b,1,none⟩=some v->U8Blk w v
theorem U8Blk.below{w w':World}{v:Value}(h:U8Blk w v)(hb:∀g,v.ownBlock=some g->w'.heap[g]?=w.heap[g]?):U8Blk w' v:=fun g hg=>by
 obtain⟨C,t,f,h1,h2⟩:=h g hg;exact⟨C,t,f,by rw[hb g hg];exact h1,h2⟩
theorem Qlf(B b:Nat)(bs:List Value)(w:World)(h:Bd B b bs w)(h8:∀v,w.cell? ⟨b,1,none⟩=some v->U8Blk w v):
 Calls Tryz.prog 191 #[.pointer (some ⟨b,0,none⟩)] w fun e w'=>e=.returned (.tuple #[])/\BdAt B b bs w'/\Below B w w'/\Wr b w w'/\(∀v,w'.cell? ⟨b,1,none⟩=some v->U8Blk w' v):=by
 rcases h with h|h
 ·
  refine(Qu1 b w h.cell0 h.shape h.frozen0).mono ?_;rintro e w' ⟨rfl,rfl⟩;have e1:(w.setCell ⟨b,0,none⟩ (.pointer (some ⟨b,0,none⟩))).cell? ⟨b,1,none⟩=w.cell? ⟨b,1,none⟩:=World.cell?_setCell_other _ _ _ _ (by simp);refine⟨rfl,h.used _,(Below.refl B w).setCell (p:=⟨b,0,none⟩) h.1 _,⟨by simp[World.setCell],fun k hk hb _=>Below.heap_setCell _ _ _ _ hb,.inl ?_⟩,fun v hv=>?_⟩
  · unfold bufOf
    rw[e1]
  ·
   rw[e1] at hv;obtain⟨_,u,hu,_,hne⟩:=h;have:v=u:=by rw[Lib.cell_of_heap hu] at hv;simpa using hv.symm
   subst this;exact(h8 v hv).below fun g hg=>Below.heap_setCell _ _ _ _ (fun e=>hne (by rw[hg,e]))
 ·
  refine(Qu0 b w h.cell0).mono ?_;rintro e w' ⟨rfl,rfl⟩;exact⟨rfl,h,Below.refl B _,Wr.refl _ _,h8⟩
theorem Qc1{P:Program}(w:World){ops:Array Oper}{rest:List Oper}{o:Oper}{a:Act}{Q:Exit->Act->World->Prop}(hgd:o.guard=none)(sl x:Operand)(t u:TypeId)
 (ho:o.op=.call { callee:=.builtin .append,args:=#[sl,x],argTypes:=#[t,u] }) (v y v':Value) (w':World) (hs:a.eval sl=v) (hx:a.eval x=y)
 (hr:(Builtin.append_ #[t,u] o.type #[v,y]).run P w=.ok v' w') (h:wpList P ops Q rest (a.put o.dst v') w'):wpList P ops Q (o :: rest) a w:=by
 refine wpList_plain hgd fun K hK=>?_
 unfold Oper.wp execOp;simp only[ho,resolve,invoke,builtin,Sem.run_bind,Sem.run_pure,Result.andThen_ok,List.map_toArray,List.map_cons,List.map_nil,hs,hx,hr];exact hK _ _ h
def Wrote(B b:Nat)(l:List UInt8)(r:Value)(w:World)(e:Ending)(w':World):Prop:=e=.returned r/\Bd8 B b l w'/\Below B w w'/\Wr b w w'
theorem Qlg{w2:World}{b:Nat}{p v v':Value}(hb2:w2.heap[b]?=some (.cells #[p,v] 209 (0,0)))(h:U8Blk w2 v')(hne:v'.ownBlock≠some b):∀u,(w2.setCell ⟨b,1,none⟩ v').cell? ⟨b,1,none⟩=some u->U8Blk (w2.setCell ⟨b,1,none⟩ v') u:=fun u hu=>by
 rw[World.cell?_setCell_same _ _ _ (show w2.cell? ⟨b,1,none⟩=some v by rw[Lib.cell_of_heap hb2];rfl)] at hu;injection hu with hu
 subst hu;exact h.below fun g hg=>Below.heap_setCell _ _ _ _ (fun e=>hne (by rw[hg,e]))
set_option maxHeartbeats 2000000 in
set_option maxRecDepth 100000 in
theorem Qvp(B b:Nat)(l:List UInt8)(c:UInt8)(w:World)(h:Bd8 B b l w)(hlen:l.length+1<=140737488355328)(hBw:B<=w.heap.size):
 Calls Tryz.prog 188 #[.pointer (some ⟨b,0,none⟩),.int .u8 (c.toNat:Int)] w (Wrote B b (l++ [c]) .nilIface w):=by
 obtain⟨i0,hi,hz0,hz1,hz2⟩:=info_parts Tryz.info8;have HC:=Hi (Qlf B b (Lib.byteCells l) w h.bd h.u8);have hbl:(Lib.byteCells l).length=l.length:=Lib.byteCells_length l;clear h;go_enter Tryz.func188,Tryz.ntmps188;go_wp2_with fail;go_fit HC.out;rintro e w1 ⟨rfl,⟨hB,v,hbk,hown,hne⟩,hb1,hw1,h8⟩;clear HC;have c1:w1.cell? ⟨b,1,none⟩=some v:=by rw[Lib.cell_of_heap hbk];rfl
 have hv8:=h8 v c1;have hlt:b<w1.heap.size:=by
  rcases Nat.lt_or_ge b w1.heap.size with h'|h'
  · exact h'
  · simp[Array.getElem?_eq_none h'] at hbk
 have hsz:=hb1.size;have hbA:Below w1.heap.size w1 (w1.alloc (.cells #[.int .u8 (c.toNat:Int)] 5)):=bR.alloc lZ _;have hownA:=Qcj hown hbA;have hn1:∀j u,[Value.int .u8 (c.toNat:Int)][j]?=some u->(w1.alloc (.cells #[.int .u8 (c.toNat:Int)] 5)).cell? ((⟨w1.heap.size,0,none⟩:Addr).add j)=some u:=World.news_of_block (heap_alloc_new w1 _);have hone:∀u∈ [Value.int .u8 (c.toNat:Int)],u.oneCell'=true:=fun u hu=>by rw[List.mem_singleton.1 hu];rfl
 obtain⟨v',w2,hr,hown',hgrow,_,hat⟩:=run_append_own_at (P:=Tryz.prog) (w1.alloc (.cells #[.int .u8 (c.toNat:Int)] 5)) B 207 207 5 i0 (.int .u8 0) 1 1 Tryz.underlying207 hi hz0 hz1 hz2 rfl (by decide) v _ _ hownA ⟨w1.heap.size,0,none⟩ 1 1 [.int .u8 (c.toNat:Int)] rfl hn1 hone (by unfold maxLen;omega) (by omega) (by rw[World.size_alloc];omega);have hv8A:U8Blk (w1.alloc (.cells #[.int .u8 (c.toNat:Int)] 5)) v:=hv8.below fun g hg=>hbA.block g ((hown.lt g hg).2)
 have h82:U8Blk w2 v':=Qvo (m:=1) hi hz0 hz1 hz2 hownA hv8A rfl hn1 hone (fun u hu=>⟨_,List.mem_singleton.1 hu⟩) (by decide) (by omega) hr;have hb2:w2.heap[b]?=some (.cells #[.pointer (some ⟨b,0,none⟩),v] 209 (0,0)):=by
  rw[hgrow.block b (by simp;omega) (fun e=>hne e.symm),Lib.alloc_old w1 _ b hlt];exact hbk
 obtain⟨ao,n',cap,rfl⟩:∃ao n' cap,v'=.slice ao n' cap:=by
  rcases hown'.2 with ⟨hv,_⟩|⟨g,cap,cur,hv,_⟩
  · exact⟨_,_,_,hv⟩
  · exact⟨_,_,_,hv⟩
 have d1:w2.cell? ⟨b,1,none⟩=some v:=by rw[Lib.cell_of_heap hb2];rfl
 have f1:w2.frozen? ⟨b,1,none⟩=false:=Lib.frozen_of_heap hb2 1;have HPUT:=Hi (Lib.BuilderAt.put (T:=209) (e:=5) hB hb2 (bs':=Lib.byteCells (l++ [c])) (by simpa [Lib.byteCells] using hown') (by decide));have HU8:=Hi (Qlg hb2 h82 (Lib.ownBlock_ne hown' hb2 (by decide)));have HBEL:=Hi (((hb1.alloc (by omega) (.cells #[.int .u8 (c.toNat:Int)] 5)).grown hgrow (by simp;omega) (fun k hk=>(hown.lt k hk).1)).setCell (p:=⟨b,1,none⟩) hB (.slice ao n' cap));have HWR:=Hi (hw1.trans (Qld hbk hbA hgrow hat hne));have HR:=Hi hr;clear hbk hown hne hb1 hw1 hb2 hown' hgrow hat hi hz0 hz1 hz2 hr h82 hv8A hone hn1 hownA hbA hv8 h8;go_wp2_with (at_builtin;refine Qc1 _ rfl _ _ 207 207 rfl v (.slice (some ⟨w1.heap.size,0,none⟩) 1 1) _ _ rfl rfl HR.out ?_);clear HR;go_wp2;go_ret;exact⟨rfl,⟨.inr HPUT.out,HU8.out⟩,HBEL.out,HWR.out⟩
theorem Qvq{w:World}{base:Nat}{v v':Value}{n:Nat}{xs:List Value}{s:ByteArray}{w':World}{ty:TypeId}{i:TypeInfo}(hi:Tryz.prog.info? 5=some i)(hz:i.zero=some (.int .u8 0))(hs1:i.size=1)(hby:i.bytes=1)(hown:w.ownsRow base 5 1 v n xs)(hu:U8Blk w v)(h0:0<s.size)(h63:n+s.size<=140737488355328)
 (hr:(Builtin.append_ #[207,9] ty #[v,.string s]).run Tryz.prog w=.ok v' w'):(v'.ownBlock=v.ownBlock∨v'.ownBlock=some w.heap.size)/\U8Blk w' v':=by
 have hxl:xs.length=n:=by simpa using hown.1
 have hown0:=hown;rcases hown.2 with ⟨rfl,rfl⟩|⟨g,cap,cur,rfl,hbg,hg,hnc,hcm,hcs,htake⟩
 ·
  rw[run_append_nil_string (P:=Tryz.prog) w 207 9 ty 5 i (.int .u8 0) Tryz.underlying207 Tryz.underlying9 hi hz s h0 (by omega) (by rw[hby];omega)] at hr;injection hr with h1 h2
  rw[<-h1,<-h2];refine⟨.inr rfl,U8Blk.new _ _ _ _ _ (U8In.append ?_ (U8In.zeros _))⟩;intro j u hu;rw[Array.getElem?_map] at hu;obtain⟨x,_,rfl⟩:=Option.map_eq_some_iff.1 hu;exact⟨_,rfl⟩
 ·
  obtain⟨C,tt,ff,hC,hC8⟩:=hu g rfl;rw[hg] at hC;injection hC with hC
  injection hC with hC _ _
  subst hC;by_cases hroom:n+s.size<=cap
  ·
   rw[Lib.run_append_room_string (P:=Tryz.prog) w 207 9 ty 5 i Tryz.underlying207 Tryz.underlying9 hi hs1 g n cap cur hg s hroom (by omega)] at hr;injection hr with h1 h2
   rw[<-h1,<-h2];refine⟨.inl rfl,U8Blk.row (n':=0) (cap':=0) hg (U8In.list fun u hu=>?_)⟩;simp only[List.mem_append] at hu;rcases hu with (hu|hu)|hu
   · exact hC8.mem (List.mem_of_mem_take hu)
   · exact Qle s u hu
   · exact hC8.mem (List.mem_of_mem_drop hu)
  ·
   have holds:∀j u,xs[j]?=some u->w.cell? ((⟨g,0,none⟩:Addr).add j)=some u:=hown0.cells (g:=g) rfl;rw[Lib.run_append_grow_string (P:=Tryz.prog) w 207 9 ty 5 i (.int .u8 0) Tryz.underlying207 Tryz.underlying9 hi hz ⟨g,0,none⟩ n cap xs (by rw[hs1];simpa using hxl) holds s (by omega) (by omega) (by rw[hby];exact growslice_fits (by omega) (by omega))] at hr;injection hr with h1 h2
   rw[<-h1,<-h2];refine⟨.inr rfl,U8Blk.new _ _ _ _ _ (((U8In.list fun u hu=>?_).append (U8In.list (Qle s))).append (U8In.zeros _))⟩;rw[<-htake] at hu;exact hC8.mem (List.mem_of_mem_take hu)
set_option maxHeartbeats 2000000 in
set_option maxRecDepth 100000 in
theorem Qlh(B b:Nat)(l:List UInt8)(s:ByteArray)(w:World)(h:Bd8 B b l w)(h0:0<s.size)(hlen:l.length+s.size<=140737488355328)(hBw:B<=w.heap.size):
 Calls Tryz.prog 189 #[.pointer (some ⟨b,0,none⟩),.string s] w (Wrote B b (l++s.data.toList) (.tuple #[.int .i64 s.size,.nilIface]) w):=by
 obtain⟨i0,hi,hz0,hz1,hz2⟩:=info_parts Tryz.info8;have HC:=Hi (Qlf B b (Lib.byteCells l) w h.bd h.u8);have hbl:(Lib.byteCells l).length=l.length:=Lib.byteCells_length l;clear h;go_enter Tryz.func189,Tryz.ntmps189;go_wp2_with fail;go_fit HC.out;rintro e w1 ⟨rfl,⟨hB,v,hbk,hown,hne⟩,hb1,hw1,h8⟩;clear HC;have c1:w1.cell? ⟨b,1,none⟩=some v:=by rw[Lib.cell_of_heap hbk];rfl
 have hsz:=hb1.size;obtain⟨v',w2,hr,hown',hgrow,_⟩:=Lib.run_append_own_string (P:=Tryz.prog) w1 B 207 9 207 5 i0 Tryz.underlying207 Tryz.underlying9 hi hz0 hz1 hz2 v _ _ hown s (by unfold maxLen;omega) (by omega) (by omega);obtain⟨hat,h82⟩:=Qvq hi hz0 hz1 hz2 hown (h8 v c1) h0 (by omega) hr;have hlt:b<w1.heap.size:=by
  rcases Nat.lt_or_ge b w1.heap.size with h'|h'
  · exact h'
  · simp[Array.getElem?_eq_none h'] at hbk
 have hb2:w2.heap[b]?=some (.cells #[.pointer (some ⟨b,0,none⟩),v] 209 (0,0)):=by
  rw[hgrow.block b hlt (fun e=>hne e.symm)];exact hbk
 obtain⟨ao,n',cap,rfl⟩:∃ao n' cap,v'=.slice ao n' cap:=by
  rcases hown'.2 with ⟨hv,_⟩|⟨g,cap,cur,hv,_⟩
  · exact⟨_,_,_,hv⟩
  · exact⟨_,_,_,hv⟩
 have d1:w2.cell? ⟨b,1,none⟩=some v:=by rw[Lib.cell_of_heap hb2];rfl
 have f1:w2.frozen? ⟨b,1,none⟩=false:=Lib.frozen_of_heap hb2 1;have hbe:Lib.byteCells (l++s.data.toList)=Lib.byteCells l++Lib.strCells s:=by rw[Lib.strCells_eq];simp[Lib.byteCells]
 have HPUT:=Hi (Lib.BuilderAt.put (T:=209) (e:=5) hB hb2 (bs':=Lib.byteCells (l++s.data.toList)) (by rw[hbe,List.length_append,Lib.strCells_length];exact hown') (by decide));have HU8:=Hi (Qlg hb2 h82 (Lib.ownBlock_ne hown' hb2 (by decide)));have HBEL:=Hi ((hb1.grown hgrow (by omega) (fun k hk=>(hown.lt k hk).1)).setCell (p:=⟨b,1,none⟩) hB (.slice ao n' cap));have HWR:=Hi (hw1.trans (Qld hbk bR hgrow hat hne));have HR:=Hi hr;clear hbk hown hne hb1 hw1 hb2 hown' hgrow hat hi hz0 hz1 hz2 hr h82 h8 hbe;go_wp2_with (at_builtin;refine Qc1 _ rfl _ _ 207 9 rfl v (.string s) _ _ rfl rfl HR.out ?_);clear HR;go_wp2;go_ret2;exact⟨rfl,⟨.inr HPUT.out,HU8.out⟩,HBEL.out,HWR.out⟩
theorem Bd8.parts{B b:Nat}{l:List UInt8}{w:World}(h:Bd8 B b l w):∃q a n c,w.heap[b]?=some (.cells #[.pointer q,.slice a n c] 209 (0,0)):=by
 have:∃q,Lib.BuilderAt 209 5 B b (.pointer q) (Lib.byteCells l) w:=by
  rcases h.bd with h|h
  · exact⟨_,h⟩
  · exact⟨_,h⟩
 obtain⟨q,hB,v,hbk,hown,hne⟩:=this;rcases hown.2 with ⟨hv,_⟩|⟨g,cap,cur,hv,_⟩
 · exact⟨q,none,0,0,by rw[<-hv];exact hbk⟩
 · exact⟨q,some ⟨g,0,none⟩,_,cap,by rw[<-hv];exact hbk⟩
theorem Bd8.lt{B b:Nat}{l:List UInt8}{w:World}(h:Bd8 B b l w):b<w.heap.size:=BdAt.lt' h.bd
theorem Bd8.not_buf{B b:Nat}{l:List UInt8}{w:World}(h:Bd8 B b l w){k o:Nat}{u:Value}(hc:w.cell? ⟨k,o,none⟩=some u)(h1:∀n,u≠.int .u8 n):bufOf w b≠some k:=by
 intro hb;unfold bufOf at hb;obtain⟨v,hv,hk⟩:=Option.bind_eq_some_iff.1 hb;obtain⟨C,t,f,hC,h8⟩:=h.u8 v hv k hk;rw[Lib.cell_of_heap hC] at hc;obtain⟨n,hn⟩:=h8 o u hc;exact h1 n hn
theorem Bd8.word_apart{B b:Nat}{l:List UInt8}{w:World}(h:Bd8 B b l w){k o:Nat}{n:Int}(hc:w.cell? ⟨k,o,none⟩=some (.int .u64 n)):k≠b/\bufOf w b≠some k:=by
 refine⟨?_,h.not_buf hc (fun n hn=>by cases hn)⟩;rintro rfl;obtain⟨q,a,m,c,hb⟩:=h.parts;rw[Lib.cell_of_heap hb] at hc
 match o with
 |0=>simp at hc
 |1=>simp at hc
 |o+2=>simp at hc
theorem Bd8.slice_apart{B b:Nat}{l:List UInt8}{w:World}(h:Bd8 B b l w){k:Nat}{a:Option Addr}{n c:Nat}(hc:w.cell? ⟨k,0,none⟩=some (.slice a n c)):k≠b/\bufOf w b≠some k:=by
 refine⟨?_,h.not_buf hc (fun n hn=>by cases hn)⟩;rintro rfl;obtain⟨q,a,m,c,hb⟩:=h.parts;rw[Lib.cell_of_heap hb] at hc;simp at hc
theorem Bd8.below{B b:Nat}{l:List UInt8}{w w':World}(h:Bd8 B b l w)(hb:Below w.heap.size w w'):Bd8 B b l w':=by
 have hlt:=h.lt;have hat:∀p,Lib.BuilderAt 209 5 B b p (Lib.byteCells l) w->Lib.BuilderAt 209 5 B b p (Lib.byteCells l) w':=fun p ⟨hB,v,hbk,hown,hne⟩=>
  ⟨hB,v,by rw[hb.block b hlt];exact hbk,Qcj hown hb,hne⟩
 refine⟨?_,fun v hv=>?_⟩
 ·
  rcases h.bd with h|h
  · exact .inl (hat _ h)
  · exact .inr (hat _ h)
 ·
  rw[hb.cell (p:=⟨b,1,none⟩) hlt] at hv;refine(h.u8 v hv).below fun g hg=>hb.block g ?_
  obtain⟨C,t,f,hC,_⟩:=h.u8 v hv g hg;exact(Array.getElem?_eq_some_iff.1 hC).1
theorem U64.wrote{B b:Nat}{l:List UInt8}{w w':World}{a:Option Addr}{cap n:Nat}{ws:List Nat}(h:U64 w a cap ws n)(hd:Bd8 B b l w)(k:Wr b w w'):U64 w' a cap ws n:=by
 refine⟨⟨h.row.fit,?_,fun i hi=>?_⟩,h.num,h.short⟩
 ·
  rcases h.row.shape with h1|⟨b',off,h1,h2⟩
  · exact .inl h1
  · exact .inr ⟨b',off,h1,by have:=k.size;omega⟩
 ·
  obtain⟨b',off,h1,h2,h3⟩:=h.row.cell i hi;obtain⟨g1,g2⟩:=hd.word_apart h3;exact⟨b',off,h1,by have:=k.size;omega,(World.cell?_of_block (w:=w) (k.block b' h2 g1 g2)).trans h3⟩
end Go.Proofs.YtfpcipgoedifaaaGreatDoor
namespace Go.Proofs.YtfpcipgoedifaaaGreatDoor
set_option linter.unusedVariables false
set_option linter.unusedSimpArgs false
structure OutT (fill:Bool) (k:Nat) (m:List UInt8) (x:Nat):Prop where
 dig:AllDigits m
 eq:decVal m=x
 most:m.length<=k
 full:fill=true->m.length=k
 some:m≠ []
 lean:fill=false->m= [48]∨m.head?≠Option.some 48
theorem Qk8(c:UInt8)(l:List UInt8):decVal (c :: l)=(c.toNat - 48)*10 ^ l.length+decVal l:=by
 have:=Qbz [c] l
 simpa [decVal] using this
theorem Qge(d:Nat)(h:d<10):(UInt8.ofNat (48+d)).toNat=48+d:=by
 rw[UInt8.toNat_ofNat'];omega
theorem Qu6(u:Nat):AllDigits (Lib.decDigits u)/\decVal (Lib.decDigits u)=u/\Lib.decDigits u≠ []/\(Lib.decDigits u= [48]∨(Lib.decDigits u).head?≠Option.some 48):=by
 induction u using Nat.strongRecOn with
 |_ u ih=>
  rw[Lib.decDigits];by_cases h:u<10
  ·
   rw[dif_pos h];have e:=Qge u h;refine⟨fun c hc=>?_,?_,by simp,?_⟩
   · rw[List.mem_singleton.1 hc,e];omega
   · simp only[decVal,List.foldl_cons,List.foldl_nil,e];omega
   ·
    by_cases h0:u=0
    · left;subst h0;rfl
    ·
     right;intro hc;have h1:UInt8.ofNat (48+u)=48:=by simpa using hc
     rw[h1] at e;have:(48:UInt8).toNat=48:=rfl;omega
  ·
   rw[dif_neg h];obtain⟨h1,h2,h3,h4⟩:=ih (u / 10) (by omega);have e:=Qge (u % 10) (by omega);refine⟨fun c hc=>?_,?_,by simp,.inr ?_⟩
   ·
    rcases List.mem_append.1 hc with hc|hc
    · exact h1 c hc
    · rw[List.mem_singleton.1 hc,e];omega
   · rw[Qda,h2,e];omega
   ·
    rcases h4 with h4|h4
    ·
     rw[h4] at h2;have:decVal [48]=0:=rfl;omega
    ·
     cases hl:Lib.decDigits (u / 10) with
     |nil=>exact absurd hl h3
     |cons c t=>rw[hl] at h4;simpa using h4
theorem Qk9{m:List UInt8}(hd:AllDigits m)(h0:m≠ [])(h:m.head?≠Option.some 48):10 ^ (m.length - 1)<=decVal m:=by
 cases m with
 |nil=>exact absurd rfl h0
 |cons c t=>
  have hc:=hd c (List.mem_cons_self ..);have hne:c.toNat≠48:=by
   intro he;apply h;simp only[List.head?_cons,Option.some.injEq];exact UInt8.toNat_inj.1 he
  rw[Qk8,List.length_cons,Nat.add_sub_cancel];have:1*10 ^ t.length<=(c.toNat - 48)*10 ^ t.length:=Nat.mul_le_mul_right _ (by omega);omega
theorem Qu7{u k:Nat}(hu:u<10 ^ k)(hk:0<k):OutT false k (Lib.decDigits u) u:=by
 obtain⟨h1,h2,h3,h4⟩:=Qu6 u;refine⟨h1,h2,?_,(fun h=>by cases h),h3,fun _=>h4⟩;rcases h4 with h4|h4
 · rw[h4];simp;omega
 ·
  have:=Qk9 h1 h3 h4;rw[h2] at this;have h5:(Lib.decDigits u).length - 1<k:=(Nat.pow_lt_pow_iff_right (by decide:1<10)).1 (Nat.lt_of_le_of_lt this hu);omega
theorem Qu8(j:Nat)(m:List UInt8):decVal (List.replicate j 48++m)=decVal m:=by
 induction j with
 |zero=>rfl
 |succ j ih=>rw[List.replicate_succ,List.cons_append,Qjk,ih]
theorem Qu9{u k:Nat}{m:List UInt8}(h:OutT false k m u):OutT true k (List.replicate (k - m.length) 48++m) u:=by
 refine⟨fun c hc=>?_,by rw[Qu8];exact h.eq,?_,fun _=>?_,?_,(fun h=>by cases h)⟩
 ·
  rcases List.mem_append.1 hc with hc|hc
  · rw[List.eq_of_mem_replicate hc];decide
  · exact h.dig c hc
 · rw[List.length_append,List.length_replicate];have:=h.most;omega
 · rw[List.length_append,List.length_replicate];have:=h.most;omega
 · intro hc
   exact h.some (List.append_eq_nil_iff.1 hc).2
theorem Qla{fill:Bool}{k hi lo:Nat}{m1 m2:List UInt8}(h1:OutT fill k m1 hi)(h2:OutT true k m2 lo)(hf:fill=true∨0<hi):OutT fill (2*k) (m1++m2) (hi*10 ^ k+lo):=by
 have e2:=h2.full rfl;refine⟨fun c hc=>?_,by rw[Qbz,h1.eq,h2.eq,e2],?_,fun h=>?_,?_,fun h=>.inr ?_⟩
 ·
  rcases List.mem_append.1 hc with hc|hc
  · exact h1.dig c hc
  · exact h2.dig c hc
 · rw[List.length_append];have:=h1.most;have:=h2.most;omega
 · rw[List.length_append,h1.full h,e2];omega
 · intro hc
   exact h1.some (List.append_eq_nil_iff.1 hc).1
 ·
  have hpos:0<hi:=by
   rcases hf with hf|hf
   · rw[h] at hf;cases hf
   · exact hf
  rcases h1.lean h with hl|hl
  · rw[<-h1.eq,hl] at hpos
    exact absurd hpos (by decide)
  ·
   cases hm:m1 with
   |nil=>exact absurd hm h1.some
   |cons c t=>rw[hm] at hl;simpa using hl
theorem OutT.grow{k k' x:Nat}{m:List UInt8}(h:OutT false k m x)(hk:k<=k'):OutT false k' m x:=⟨h.dig,h.eq,Nat.le_trans h.most hk,(fun h=>by cases h),h.some,h.lean⟩
theorem Qva(m:List UInt8):val 10 (m.reverse.map (fun c=>c.toNat - 48))=decVal m:=by
 induction m with
 |nil=>rfl
 |cons c t ih=>
  rw[List.reverse_cons,List.map_append,List.map_cons,List.map_nil,Qal,ih,Qk8,List.length_map,List.length_reverse,Nat.mul_comm (10 ^ t.length)];omega
theorem OutT.dec{k x:Nat}{m:List UInt8}(h:OutT false k m x):IsDec m x:=by
 by_cases h0:x=0
 ·
  left;refine⟨h0,?_⟩;rcases h.lean rfl with hl|hl
  · exact hl
  ·
   have:=Qk9 h.dig h.some hl;rw[h.eq,h0] at this;have:=Nat.pow_pos (n:=m.length - 1) (by decide:0<10);omega
 ·
  right;refine⟨h0,m.reverse.map (fun c=>c.toNat - 48),⟨?_,?_,by rw[Qva];exact h.eq⟩,?_⟩
  ·
   intro d hd;obtain⟨c,hc,rfl⟩:=List.mem_map.1 hd;have:=h.dig c (List.mem_reverse.1 hc);omega
  ·
   right;rcases h.lean rfl with hl|hl
   · rw[<-h.eq,hl] at h0
     exact absurd rfl h0
   ·
    cases hm:m with
    |nil=>exact absurd hm h.some
    |cons c t=>
     rw[hm] at hl;have hc:=h.dig c (by rw[hm];exact List.mem_cons_self ..);have hne:c.toNat≠48:=fun he=>hl (by simp only[List.head?_cons,Option.some.injEq];exact UInt8.toNat_inj.1 he)
     rw[List.reverse_cons,List.map_append,List.map_cons,List.map_nil,List.length_append,List.length_singleton,Nat.add_sub_cancel,List.getD_eq_getElem?_getD,List.getElem?_append_right lZ,Nat.sub_self];simp;omega
  ·
   rw[<-List.map_reverse,List.reverse_reverse,List.map_map]
   conv=>lhs;rw[<-List.map_id m]
   apply List.map_congr_left;intro c hc;have:=h.dig c hc;apply UInt8.toNat_inj.1;simp only[id_eq,Function.comp_apply];rw[Qge _ (by omega)];omega
open Go.RowKit
def Digs(B b:Nat)(l:List UInt8)(fill:Bool)(k x:Nat)(w:World)(e:Ending)(w':World):Prop:=∃m,OutT fill k m x/\Wrote B b (l++m) (.tuple #[]) w e w'
set_option maxHeartbeats 2000000 in
set_option maxRecDepth 100000 in
theorem Qu2(w0 w:World)(b:Nat)(l:List UInt8)(u:Nat)(fill:Bool)(hT:Tab w0)(hb:Below w0.heap.size w0 w)(h:Bd8 w0.heap.size b l w)(hu:u<10000000000000000000)(hl:l.length+19<=140737488355328):
 Calls Tryz.prog 184 #[.pointer (some ⟨b,0,none⟩),.int .u64 u,.bool fill] w (Digs w0.heap.size b l fill 19 u w):=by
 have HO:=Hi (Qu7 (u:=u) (k:=19) hu (by decide));have hsz:w0.heap.size<=w.heap.size:=hb.size;have HF:=Hi (Qvn u (by omega) w (hT.below hb));have HD:=Hi h;obtain⟨s,hs⟩:=nm ((⟨(Lib.decDigits u).toArray⟩:ByteArray));rw[hs] at HF;have hse:s.data.toList=Lib.decDigits u:=by rw[<-hs]
 have hss:s.size=(Lib.decDigits u).length:=by rw[<-hse];simp
 have hs0:0<s.size:=by rw[hss];exact List.length_pos_iff.2 HO.out.some
 have hs19:s.size<=19:=by rw[hss];exact HO.out.most
 have HSE:=Hi hse;have HSS:=Hi hss;clear hb h hT hs hse hss;cases fill with
 |false=>
  go_enter Tryz.func184,Tryz.ntmps184;go_wp2_with fail;go_fit HF.out;rintro e w1 ⟨rfl,hb1⟩;have HW:=Hi (Qlh w0.heap.size b l s w1 (HD.out.below hb1) hs0 (by omega) (by have:=hb1.size;omega));have HB1:=Hi hb1;clear HF hb1;go_wp2_with fail;go_fit HW.out;rintro e w2 ⟨rfl,hd,hb2,hw2⟩;have HD2:=Hi hd;have HB2:=Hi hb2;have HW2:=Hi hw2;clear HW hd hb2 hw2;go_wp2;go_end0;rw[HSE.out] at HD2;exact⟨_,HO.out,rfl,HD2.out,(HB1.out.mono hsz).trans HB2.out,(Wr.below HD.out.lt HB1.out).trans HW2.out⟩
 |true=>
  go_enter Tryz.func184,Tryz.ntmps184;go_wp2_with fail;go_fit HF.out;rintro e w1 ⟨rfl,hb1⟩;have HD1:=Hi (HD.out.below hb1);have HB1:=Hi (hb1.mono hsz);have HW1:=Hi (Wr.below HD.out.lt hb1);have hsz1:w0.heap.size<=w1.heap.size:=by have:=hb1.size;omega
  clear HF hb1 HD;go_wp2_with fail;go_loopw [13] (fun iv wr=>∃j:Nat,j+s.size<=19/\iv=.int .i64 j/\Bd8 w0.heap.size b (l++List.replicate j 48) wr/\Below w0.heap.size w wr/\Wr b w wr/\w0.heap.size<=wr.heap.size) (fun iv _=>19 - (intOf iv).toNat)
  case atStart=>exact⟨0,by omega,rfl,by rw[List.replicate_zero,List.append_nil];exact HD1.out,HB1.out,HW1.out,hsz1⟩
  case round=>
   obtain⟨j,hj,rfl,hd,hb,hw,hz⟩:=hrel;have HDJ:=Hi hd;have HBJ:=Hi hb;have HWJ:=Hi hw;clear hd hb hw;by_cases hlt:j+s.size<19
   ·
    have q1:((j:Int)<19 - (s.size:Int)):=by omega
    have HW:=Hi (Qvp w0.heap.size b (l++List.replicate j 48) 48 wr HDJ.out (by rw[List.length_append,List.length_replicate];omega) hz);rw[show ((48:UInt8).toNat:Int)=48 from rfl] at HW;go_wp2_with fail;go_fit HW.out;rintro e w2 ⟨rfl,hd,hb2,hw2⟩;have HD2:=Hi hd;have HB2:=Hi hb2;have HW2:=Hi hw2;have hz2:=hw2.size;clear HW hd hb2 hw2;go_wp2;go_roundw
    case rel=>exact⟨j+1,by omega,by go_num,by rw[List.replicate_succ',<-List.append_assoc];exact HD2.out,HBJ.out.trans HB2.out,HWJ.out.trans HW2.out,by omega⟩
    case measure=>simp[intOf];omega
   ·
    have q1:¬((j:Int)<19 - (s.size:Int)):=by omega
    have hje:j=19 - (Lib.decDigits u).length:=by rw[<-HSS.out];omega
    have HW:=Hi (Qlh w0.heap.size b (l++List.replicate j 48) s wr HDJ.out hs0 (by rw[List.length_append,List.length_replicate];omega) hz);go_wp2_with fail;go_fit HW.out;rintro e w2 ⟨rfl,hd,hb2,hw2⟩;have HD2:=Hi hd;have HB2:=Hi hb2;have HW2:=Hi hw2;clear HW hd hb2 hw2;go_wp2;go_end0;rw[HSE.out,List.append_assoc,hje] at HD2;exact⟨_,Qu9 HO.out,rfl,HD2.out,HBJ.out.trans HB2.out,HWJ.out.trans HW2.out⟩
end Go.Proofs.YtfpcipgoedifaaaGreatDoor
