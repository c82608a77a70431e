/- package pebble: Free and Rigid. -/
import Derived.Laws.OwnMore
import Derived.Test.YtbbkamnfjejceaaGreatDoorP44PebT
import Derived.Test.YtbbkamnfjejceaaGreatDoorP45PebC
namespace Go.Proofs.YtbbkamnfjejceaaGreatDoor.Peb
open Go.RowKit Go.MapKept
set_option linter.unusedVariables false
set_option linter.unusedSimpArgs false
theorem Qne:(Tryz.prog.info? 181).map (fun i=>(i.zero,i.size,i.bytes))=some (some (.slice none 0 0),1,24):=by kernel_rfl
theorem Qnf(z:Value)(hz:z.cells=#[z])(n:Nat):madeCells z.cells (n*1)=lsArr n (fun _=>z):=by
 rw[hz,Nat.mul_one];apply Array.ext
 · rw[size_madeCells,Qm8]
 · intro i h1 h2
   simp[madeCells,lsArr,Nat.mod_one]
theorem Qhh(t e:TypeId)(z:Value)(by_:Nat)(hz:z.cells=#[z])(ht:Tryz.prog.underlying t=some (.slice e))(hinf:(Tryz.prog.info? e).map (fun i=>(i.zero,i.size,i.bytes))=some (some z,1,by_))(hb:by_≤100)(n:Nat)(hn:n≤10)(w:World):
 (Instr.makeSlice t (.int .i64 (n:Int)) (.int .i64 (n:Int))).run Tryz.prog w=.ok (.slice (some ⟨w.heap.size,0,none⟩) n n) (w.alloc (.cells (lsArr n (fun _=>z)) e)):=by
 obtain⟨i0,hi,hz0,hz1,hz2⟩:=info_parts hinf;have hm:i0.bytes*n≤100*10:=Nat.mul_le_mul (by omega) hn;have:=run_makeSlice (P:=Tryz.prog) w t e i0 z ht hi hz0 .i64 .i64 (n:Int) (n:Int) (by omega) (by omega) (by rw[hz1];simp;omega) (by omega) (by omega);rw[this,hz1];simp only[Int.toNat_natCast];rw[Qnf z hz]
theorem heap4(w:World)(a b c d:Obj):((((w.alloc a).alloc b).alloc c).alloc d).heap[w.heap.size]?=some a∧((((w.alloc a).alloc b).alloc c).alloc d).heap[w.heap.size+1]?=some b∧((((w.alloc a).alloc b).alloc c).alloc d).heap[w.heap.size+1+1]?=some c∧((((w.alloc a).alloc b).alloc c).alloc d).heap[w.heap.size+1+1+1]?=some d:=by
 have e:((((w.alloc a).alloc b).alloc c).alloc d).heap=(((w.heap.push a).push b).push c).push d:=rfl;rw[e];refine⟨?_,?_,?_,?_⟩
 · rw[Array.getElem?_push,if_neg (by simp;omega),Array.getElem?_push,if_neg (by simp;omega),Array.getElem?_push,if_neg (by simp),Array.getElem?_push,if_pos rfl]
 · rw[Array.getElem?_push,if_neg (by simp),Array.getElem?_push,if_neg (by simp),Array.getElem?_push,if_pos (by simp)]
 · rw[Array.getElem?_push,if_neg (by simp),Array.getElem?_push,if_pos (by simp)]
 · rw[Array.getElem?_push,if_pos (by simp)]
theorem Qng(w:World)(a b c d:Obj):Below w.heap.size w ((((w.alloc a).alloc b).alloc c).alloc d).drew:=
 ((((Below.refl _ _).alloc (Nat.le_refl _) _ |>.alloc (by simp) _).alloc (by simp;omega) _).alloc (by simp;omega) _).drew
theorem size4(w:World)(a b c d:Obj):((((w.alloc a).alloc b).alloc c).alloc d).drew.heap.size=w.heap.size+1+1+1+1:=by
 show ((((w.heap.push a).push b).push c).push d).size=_
 simp
theorem PB.make{V:World}{s n g gl gp gm:Nat}(hl:V.heap[gl]?=some (.cells (lsArr n (fun _=>.int .i64 0)) 3))(hp:V.heap[gp]?=some (.cells (lsArr n (fun _=>.slice none 0 0)) 181))(hm:V.heap[gm]?=some (.map #[] 0))
 (hg:V.heap[g]?=some (.cells #[.slice (some ⟨gl,0,none⟩) n n,.slice (some ⟨gp,0,none⟩) n n,.map (some gm)] 196)) (hV:V.heap.size=s+1+1+1+1) (hne:gl≠gp∧gl≠gm∧gp≠gm∧g≠gl∧g≠gp∧g≠gm) (hlo:s≤g∧s≤gl∧s≤gp∧s≤gm):
 PB V s (s+1+1+1+1) n g gl gp gm (fun _=>.slice none 0 0) (fun _=>0) (fun _=>[]) (fun _=>false):=by
 have lt:∀{b:Nat} {o:Obj},V.heap[b]?=some o→b<s+1+1+1+1:=fun h=>by rw[←hV];exact(Array.getElem?_eq_some_iff.1 h).1
 exact⟨hne,hlo,⟨lt hg,lt hl,lt hp,lt hm,by omega⟩,hg,hl,hp,fun p _=>⟨rfl,.inl ⟨rfl,rfl⟩⟩,fun p q b _ _ _ h=>by simp[Value.ownBlock] at h,#[],0,hm,ISet.empty⟩
theorem PB.congrL{w:World}{B0 B n g gl gp gm:Nat}{hv:Nat→Value}{loose loose':Nat→Nat}{paid:Nat→List Nat}{seen:PSet}(h:PB w B0 B n g gl gp gm hv loose paid seen)(he:∀p,p<n→loose p=loose' p):PB w B0 B n g gl gp gm hv loose' paid seen:=by
 have e:lsArr n (fun p=>nv (loose p))=lsArr n (fun p=>nv (loose' p)):=by
  unfold lsArr
  congr 1
  apply List.map_congr_left;intro p hp;rw[he p (List.mem_range.1 hp)]
 exact⟨h.ne,h.lo,h.hi,h.brd,by rw[←e];exact h.ls,h.hd,h.rows,h.apart,h.map⟩
set_option maxRecDepth 100000 in
set_option maxHeartbeats 4000000 in
theorem Qhi(n:Nat)(hn:n≤10)(w:World):
 Calls Tryz.prog 79 #[.int .i64 (n:Int)] w fun e w'=>∃g gl gp gm B,e=.returned (.pointer (some ⟨g,0,none⟩))∧PB w' w.heap.size B n g gl gp gm (fun _=>.slice none 0 0) (fun _=>2) (fun _=>[]) (fun _=>false)∧Below w.heap.size w w':=by
 have hmake:∀v:World,(Instr.makeMap 194 none).run Tryz.prog v=.ok (.map (some v.heap.size)) (v.alloc (.map #[] 0)):=fun v=>rfl
 have hk1:∀v:World,(Instr.makeSlice 181 (.int .i64 (n:Int)) (.int .i64 (n:Int))).run Tryz.prog v=.ok (.slice (some ⟨v.heap.size,0,none⟩) n n) (v.alloc (.cells (lsArr n (fun _=>.int .i64 0)) 3)):=Qhh 181 3 (.int .i64 0) 8 rfl Tryz.underlying181 infoInt (by decide) n hn;have hk2:∀v:World,(Instr.makeSlice 193 (.int .i64 (n:Int)) (.int .i64 (n:Int))).run Tryz.prog v=.ok (.slice (some ⟨v.heap.size,0,none⟩) n n) (v.alloc (.cells (lsArr n (fun _=>.slice none 0 0)) 181)):=Qhh 193 181 (.slice none 0 0) 24 rfl Tryz.underlying193 Qne (by decide) n hn;go_enter Tryz.func79,Tryz.ntmps79;go_wp2_with fail;go_cut [3] (fun s3 wc=>∃g gl gp gm,s3=.pointer (some ⟨g,0,none⟩)∧PB wc w.heap.size (w.heap.size+1+1+1+1) n g gl gp gm (fun _=>.slice none 0 0) (fun _=>0) (fun _=>[]) (fun _=>false)∧Below w.heap.size w wc)
 case first=>
  go_region
  all_goals
   go_wp2_with fail;go_meet
   case rel=>
    refine⟨_,_,_,_,rfl,PB.make ?_ ?_ ?_ (heap4 w _ _ _ _).2.2.2 (size4 w _ _ _ _) ?_ ?_,Qng w _ _ _ _⟩
    · first|exact(heap4 w _ _ _ _).1|exact(heap4 w _ _ _ _).2.1|exact(heap4 w _ _ _ _).2.2.1
    · first|exact(heap4 w _ _ _ _).1|exact(heap4 w _ _ _ _).2.1|exact(heap4 w _ _ _ _).2.2.1
    · first|exact(heap4 w _ _ _ _).1|exact(heap4 w _ _ _ _).2.1|exact(heap4 w _ _ _ _).2.2.1
    · omega
    · omega
 case rest=>
  obtain⟨g,gl,gp,gm,rfl,hpb,hbw⟩:=hcut;obtain⟨wx,rfl⟩:∃wx,wx=wc:=⟨wc,rfl⟩;have HPB:=Hi hpb;have HBW:=Hi hbw;have c0:wx.cell? ⟨g,0,none⟩=some (.slice (some ⟨gl,0,none⟩) n n):=hpb.brd.cell 0;clear hpb hbw hmake hk1 hk2;go_wp2_with fail;clear c0;go_loopw [17] (fun iv wr=>∃k:Nat,k≤n∧iv=.int .i64 k∧PB wr w.heap.size (w.heap.size+1+1+1+1) n g gl gp gm (fun _=>.slice none 0 0) (fun r=>if r<k then 2 else 0) (fun _=>[]) (fun _=>false)∧Below w.heap.size w wr) (fun iv _=>n - (intOf iv).toNat)
  case atStart=>exact⟨0,by omega,rfl,HPB.out.congrL (fun p _=>by simp),HBW.out⟩
  case round=>
   obtain⟨k,hk,rfl,hpb,hbw⟩:=hrel;by_cases hlt:k<n
   ·
    have c0:wr.cell? ⟨g,0,none⟩=some (.slice (some ⟨gl,0,none⟩) n n):=hpb.brd.cell 0;have l0:wr.cell? ⟨gl,k,none⟩=some (.int .i64 0):=by
     have:=(hpb.ls.cell k).trans (Qaf _ hlt);simp only[Nat.lt_irrefl,if_false] at this;exact this
    have z0:wr.frozen? ⟨gl,k,none⟩=false:=hpb.ls.free k;have HP2:Hid (PB (wr.setCell ⟨gl,k,none⟩ (.int .i64 2)) w.heap.size (w.heap.size+1+1+1+1) n g gl gp gm (fun _=>.slice none 0 0) (fun r=>if r<k+1 then 2 else 0) (fun _=>[]) (fun _=>false)):=Hi ((hpb.setLoose k 2).congrL (fun p _=>by
     by_cases e:p=k
     · subst e;rw[Qab];simp
     ·
      rw[Qaa _ _ e];by_cases e2:p<k
      · rw[if_pos e2,if_pos (by omega)]
      · rw[if_neg e2,if_neg (by omega)]))
    have HB2:Hid (Below w.heap.size w (wr.setCell ⟨gl,k,none⟩ (.int .i64 2))):=Hi (hbw.setCell hpb.lo.2.1 _);have q1:((k:Int)<(n:Int)):=by omega
    clear hpb hbw;go_wp2;go_roundw
    case rel=>exact⟨k+1,by omega,by go_num,HP2.out,HB2.out⟩
    case measure=>simp[intOf];omega
   ·
    obtain rfl:n=k:=by omega
    have HP2:Hid (PB wr w.heap.size (w.heap.size+1+1+1+1) n g gl gp gm (fun _=>.slice none 0 0) (fun _=>2) (fun _=>[]) (fun _=>false)):=Hi (hpb.congrL (fun p hp=>by simp[hp]));have HB2:=Hi hbw;clear hpb hbw;go_wp2;go_ret;exact⟨g,gl,gp,gm,_,rfl,HP2.out,HB2.out⟩
end Go.Proofs.YtbbkamnfjejceaaGreatDoor.Peb
namespace Go.Proofs.YtbbkamnfjejceaaGreatDoor.Peb
open Go.RowKit Go.MapKept
set_option linter.unusedVariables false
set_option linter.unusedSimpArgs false
def toE(e:Int × Int):Edge:=(e.1.toNat,e.2.toNat)
def Good(n:Nat)(es:List (Int × Int)):Prop:=∀e∈ es,(0≤e.1∧e.1<n)∧(0≤e.2∧e.2<n)∧e.1≠e.2
def revE(es:List (Int × Int))(k:Nat):List Edge:=((es.take k).map toE).reverse
theorem Qmx{es:List (Int × Int)}{k:Nat}{f:Int × Int}(hf:es[k]?=some f):revE es (k+1)=toE f :: revE es k:=by
 unfold revE;rw[List.take_add_one,hf];simp
theorem Qg3(es:List (Int × Int)):revE es es.length=(es.map toE).reverse:=by
 unfold revE;rw[List.take_length]
theorem Good.graph{n:Nat}{es:List (Int × Int)}(h:Good n es)(k:Nat):GraphE n (revE es k):=by
 intro e he;unfold revE at he;rw[List.mem_reverse] at he;obtain⟨f,hf,rfl⟩:=List.mem_map.1 he;obtain⟨h1,h2,h3⟩:=h f (List.mem_of_mem_take hf);unfold toE;refine⟨by simp only;omega,by simp only;omega,?_⟩;simp only;omega
theorem Good.at{n:Nat}{es:List (Int × Int)}(h:Good n es){k:Nat}{f:Int × Int}(hf:es[k]?=some f):∃a b:Nat,f=((a:Int),(b:Int))∧a<n∧b<n∧a≠b∧toE f=(a,b):=by
 obtain⟨h1,h2,h3⟩:=h f (List.mem_of_getElem? hf);refine⟨f.1.toNat,f.2.toNat,?_,by omega,by omega,by omega,rfl⟩;obtain⟨x,y⟩:=f;simp only at h1 h2;simp only[Prod.mk.injEq];omega
def After(n:Nat)(es:List (Int × Int))(k:Nat)(l:List Bool)(loose:Nat→Nat)(paid:Nat→List Nat):Prop:=RunR n (revE es k) l∧Board n loose paid (keptR (revE es k) l)
theorem After.start(n:Nat)(es:List (Int × Int)):After n es 0 [] (fun _=>2) (fun _=>[]):=⟨trivial,Board.new n⟩
theorem After.sparse{n:Nat}{es:List (Int × Int)}{k:Nat}{l:List Bool}{loose:Nat→Nat}{paid:Nat→List Nat}(h:After n es k l loose paid)(hg:Good n es):Sparse n (keptR (revE es k) l):=(Qha (hg.graph k) h.1).1
theorem After.step{n:Nat}{es:List (Int × Int)}{k a b:Nat}{l:List Bool}{r:Bool}{loose loose':Nat→Nat}{paid paid':Nat→List Nat}{f:Int × Int}(h:After n es k l loose paid)(hf:es[k]?=some f)(he:toE f=(a,b))(ht:TakeSays n a b (keptR (revE es k) l) r loose' paid'):After n es (k+1) (r :: l) loose' paid':=by
 unfold After;rw[Qmx hf,he];refine⟨⟨h.1,ht.1⟩,?_⟩;have:=ht.2;cases r with
 |true=>exact this
 |false=>exact this
set_option maxRecDepth 100000 in
set_option maxHeartbeats 4000000 in
theorem Qmy(n:Nat)(hn:n≤10)(a:Option Addr)(cap:Nat)(es:List (Int × Int))(w:World)(he:ERow w a cap es)(hg:Good n es)(hlen:es.length≤45):
 Calls Tryz.prog 130 #[.int .i64 (n:Int),.slice a es.length cap] w fun e w'=>∃l,e=.returned (.int .i64 (l.countP id:Nat))∧RunR n (es.map toE).reverse l∧Below w.heap.size w w':=by
 have HE:=Hi he;have HG:=Hi hg;have HN:=Hi (Qhi n hn w);clear he hg;go_enter Tryz.func130,Tryz.ntmps130;go_wp2_with fail;go_fit HN.out;rintro e w1 ⟨g,gl,gp,gm,B,rfl,hpb,hbw⟩;have HP:=Hi hpb;have HB:=Hi hbw;clear hpb hbw;go_wp2_with fail;go_loopw [13,6] (fun iv fv wr=>∃(k:Nat) (l:List Bool) (hv:Nat→Value) (loose:Nat→Nat) (paid:Nat→List Nat) (seen:PSet),k≤es.length∧iv=.int .i64 k∧fv=.int .i64 (l.countP id:Nat)∧l.countP id≤k∧After n es k l loose paid∧PB wr w.heap.size B n g gl gp gm hv loose paid seen∧Below w.heap.size w wr) (fun iv _ _=>es.length - (intOf iv).toNat)
 case atStart=>exact⟨0,[],_,_,_,_,by omega,rfl,rfl,by simp,After.start n es,HP.out,HB.out⟩
 case round=>
  obtain⟨k,l,hv,loose,paid,seen,hk,rfl,rfl,hcl,haf,hpb,hbw⟩:=hrel;obtain⟨c,hc⟩:∃c,l.countP id=c:=⟨_,rfl⟩;rw[hc] at hcl;have HAF:=Hi haf;have HPB:=Hi hpb;have HBW:=Hi hbw;have HC:=Hi hc;rw[hc];clear haf hpb hbw hc;by_cases hlt:k<es.length
  ·
   obtain⟨f,hf⟩:∃f,es[k]?=some f:=⟨es[k],List.getElem?_eq_getElem hlt⟩;obtain⟨x,y,hxy,hx,hy,hne,hte⟩:=HG.out.at hf;obtain⟨fb,off,rfl,hfb,d0,d1⟩:=(HE.out.below HBW.out).cell k f hf;rw[hxy] at d0 d1;have HFK:=Hi hf;have HTE:=Hi hte;obtain⟨V1,hV1⟩:∃V1,wr.alloc (.cells #[.int .i64 (x:Int),.int .i64 (y:Int)] 69)=V1:=⟨_,rfl⟩;have hpv:PB V1 w.heap.size B n g gl gp gm hv loose paid seen:=by rw[←hV1];exact HPB.out.alloc _
   have HBV:Hid (Below w.heap.size w V1):=Hi (by rw[←hV1];exact HBW.out.alloc HBW.out.size _);have HT:=Hi (Qhn hn V1 hv loose paid seen _ x y hpv HAF.out.2 (HAF.out.sparse HG.out) hx hy hne);have hsv:SB V1 wr.heap.size 69 #[.int .i64 (x:Int),.int .i64 (y:Int)]:=by rw[←hV1];exact SB.new wr _ _
   have p0:V1.cell? ⟨wr.heap.size,0,none⟩=some (.int .i64 (x:Int)):=hsv.cell 0;have p1:V1.cell? ⟨wr.heap.size,1,none⟩=some (.int .i64 (y:Int)):=hsv.cell 1;have q1:((k:Int)<(es.length:Int)):=by omega
   have HV1:=Hi hV1;rw[←hV1] at p0 p1;clear hf hxy hte hV1 hpv hsv hne;go_wp2_with fail;rw[HV1.out];go_fit HT.out;rintro e w2 ⟨r,hv2,loose2,paid2,seen2,rfl,hpb2,hkp2,hts⟩;have HP2:=Hi hpb2;have HB2:=Hi (HBV.out.trans hkp2.below);have HA2:=Hi (HAF.out.step HFK.out HTE.out hts);clear hpb2 hkp2 hts d0 d1 p0 p1;cases r with
   |true=>
    go_wp2;go_roundw
    case rel=>exact⟨k+1,true :: l,hv2,loose2,paid2,seen2,by omega,by go_num,by rw[List.countP_cons,HC.out];simp,by rw[List.countP_cons,HC.out];simp;omega,HA2.out,HP2.out,HB2.out⟩
    case measure=>simp[intOf];omega
   |false=>
    go_wp2;go_roundw
    case rel=>exact⟨k+1,false :: l,hv2,loose2,paid2,seen2,by omega,by go_num,by rw[List.countP_cons,HC.out];simp,by rw[List.countP_cons,HC.out];simp;omega,HA2.out,HP2.out,HB2.out⟩
    case measure=>simp[intOf];omega
  ·
   obtain rfl:k=es.length:=by omega
   go_wp2;go_ret;exact⟨l,by rw[HC.out];rfl,by rw[←Qg3];exact HAF.out.1,HBW.out⟩
end Go.Proofs.YtbbkamnfjejceaaGreatDoor.Peb
namespace Go.Proofs.YtbbkamnfjejceaaGreatDoor.Peb
open Go.RowKit Go.MapKept
set_option linter.unusedVariables false
set_option linter.unusedSimpArgs false
theorem results_two_cell{P:Program}{fn:Func}{p u:Tmp}{ty:TypeId}(h:fn.results=#[.tmp u,.cell p ty])(tmps:Array Value)(w:World)(g:Nat)(t:TypeId)(cs:Array Value)(fr:Nat × Nat)(d:TypeDesc)
 (hp:tmps.getD p undef=.pointer (some ⟨g,0,none⟩)) (hg:w.heap[g]?=some (.cells cs t fr))
 (hu:P.underlying ty=some d) (hd:(match d with| .struct _| .array _ _=>true|_=>false)=true) (hi:(P.info? ty).map (·.size)=some cs.size):
 (results fn tmps).run P w=.ok (.tuple #[tmps.getD u undef,.agg cs]) w:=by
 have hp':tmps[p]?.getD undef=.pointer (some ⟨g,0,none⟩):=by simpa using hp
 simp[results,h,hp',asAddr,run_loadVar_row w g t ty cs fr d hg hu hd hi]
def BRow(w:World)(B:Nat)(v:Value)(l:List Bool):Prop:=w.ownsRow B 4 1 v l.length (l.map Value.bool)
theorem BRow.nil(w:World)(B:Nat):BRow w B (.slice none 0 0) []:=World.ownsRow_nil w B 4 1
theorem BRow.mono{w:World}{B B':Nat}{v:Value}{l:List Bool}(h:BRow w B v l)(hB:B'≤B):BRow w B' v l:=by
 refine⟨h.1,?_⟩;rcases h.2 with h1|⟨g,cap,cur,e,hb,h2⟩
 · exact .inl h1
 · exact .inr ⟨g,cap,cur,e,Nat.le_trans hB hb,h2⟩
theorem BRow.keep{w w':World}{B:Nat}{v:Value}{l:List Bool}(h:BRow w B v l)(hk:∀g,v.ownBlock=some g→w'.heap[g]?=w.heap[g]?):BRow w' B v l:=by
 refine⟨h.1,?_⟩;rcases h.2 with h1|⟨g,cap,cur,rfl,hb,hg,h2⟩
 · exact .inl h1
 · exact .inr ⟨g,cap,cur,rfl,hb,by rw[hk g rfl];exact hg,h2⟩
theorem BRow.block{w:World}{B:Nat}{v:Value}{l:List Bool}(h:BRow w B v l){g:Nat}(hg:v.ownBlock=some g):B≤g∧∃C,SB w g 4 C:=by
 rcases h.2 with ⟨rfl,_⟩|⟨g',cap,cur,rfl,hb,hg',_⟩
 · simp[Value.ownBlock] at hg
 ·
  have e:g'=g:=by simpa [Value.ownBlock] using hg
  subst e;exact⟨hb,cur,hg'⟩
theorem BRow.kp{w w':World}{B B0:Nat}{v:Value}{l:List Bool}(h:BRow w B v l)(hk:Kp B0 w w'):BRow w' B v l:=h.keep (fun g hg=>by
 obtain⟨_,C,hC⟩:=h.block hg
 exact hk.bools g C _ rfl hC)
theorem BRow.alloc{w:World}{B:Nat}{v:Value}{l:List Bool}(h:BRow w B v l)(o:Obj):BRow (w.alloc o) B v l:=h.keep (fun g hg=>by
 obtain⟨_,C,hC⟩:=h.block hg
 exact Qb1 w o hC.lt)
theorem BRow.at{w:World}{B:Nat}{v:Value}{l:List Bool}(h:BRow w B v l):(v=.slice none 0 0∧l= [])∨∃g cap,v=.slice (some ⟨g,0,none⟩) l.length cap∧B≤g∧g<w.heap.size∧l.length≤cap∧cap≤maxLen∧∀i q,l[i]?=some q→w.cell? ⟨g,i,none⟩=some (.bool q):=by
 rcases h.2 with ⟨h1,h2⟩|⟨g,cap,cur,rfl,hb,hg,hn,hm,hs,ht⟩
 · exact .inl ⟨h1,List.eq_nil_of_length_eq_zero h2⟩
 ·
  refine .inr ⟨g,cap,rfl,hb,(Array.getElem?_eq_some_iff.1 hg).1,hn,hm,fun i q hi=>?_⟩;have hil:i<l.length:=(List.getElem?_eq_some_iff.1 hi).1;have:(l.map Value.bool)[i]?=some (.bool q):=by rw[List.getElem?_map,hi];rfl
  rw[←ht,List.getElem?_take_of_lt (by omega),Array.getElem?_toList] at this;rw[SB.cell (t:=4) hg];exact this
theorem Qmz:(Tryz.prog.info? 4).map (fun i=>(i.zero,i.size,i.bytes))=some (some (.bool false),1,1):=by kernel_rfl
theorem BRow.app{w:World}{B:Nat}{v:Value}{l:List Bool}(h:BRow w B v l)(hl:l.length≤1000)(hB:B≤w.heap.size)(a:Addr)(x:Bool)(hx:w.cell? a=some (.bool x))(c:Nat):
 ∃v' w',appRun Tryz.prog 70 70 v (.slice (some a) 1 c) w=.ok v' w'∧BRow w' B v' (l++ [x])∧w.grownBy w' v.ownBlock:=by
 obtain⟨i0,hi,hz0,hz1,hz2⟩:=info_parts Qmz;obtain⟨v',w',h1,h2,h3,h4,h5⟩:=run_append_own_at (P:=Tryz.prog) w B 70 70 4 i0 (.bool false) 1 1 Tryz.underlying70 hi hz0 hz1 hz2 rfl (by decide) v l.length (l.map Value.bool) h a 1 c [.bool x] rfl (fun j u hj=>by
  cases j with
  |zero=>simp at hj;subst hj;simpa [Addr.add] using hx
  |succ j=>simp at hj) (fun u hu=>by rw[List.mem_singleton.1 hu];rfl) (by unfold maxLen;omega) (by omega) hB
 refine⟨v',w',h1,?_,h3⟩;unfold BRow;rw[List.length_append,List.map_append];exact h2
theorem PB.grownBool{w w':World}{B0 B n g gl gp gm:Nat}{hv:Nat→Value}{loose:Nat→Nat}{paid:Nat→List Nat}{seen:PSet}(h:PB w B0 B n g gl gp gm hv loose paid seen){row:Option Nat}(hg:w.grownBy w' row)(hr:∀b,row=some b→∃C,SB w b 4 C):PB w' B0 B n g gl gp gm hv loose paid seen:=by
 have far:∀{b:Nat} {t:TypeId} {C:Array Value},SB w b t C→t≠4→w'.heap[b]?=w.heap[b]?:=fun {b t C} hs ht=>hg.block b hs.lt (fun e=>by
  obtain⟨D,hD⟩:=hr b e.symm;unfold SB at hs hD;rw[hs] at hD;simp at hD
  exact ht hD.2)
 obtain⟨es,c,hm,hi⟩:=h.map;obtain⟨a1,a2,a3,a4,a5⟩:=h.hi;refine⟨h.ne,h.lo,⟨a1,a2,a3,a4,Nat.le_trans a5 hg.size⟩,h.brd.keep (far h.brd (by decide)),h.ls.keep (far h.ls (by decide)),h.hd.keep (far h.hd (by decide)),fun p hp=>(h.rows p hp).keep (fun b hb=>?_),h.apart,es,c,?_,hi⟩
 · obtain⟨_,C,hC⟩:=(h.rows p hp).block hb
   exact far hC (by decide)
 ·
  rw[hg.block gm (by omega) (fun e=>by
   obtain⟨D,hD⟩:=hr gm e.symm;unfold SB at hD;rw[hm] at hD
   cases hD)]
  exact hm
theorem Qg4{n:Int}{es:List (Int × Int)}{at_:Int}(h:ChkSays n es 0 at_):∃m:Nat,n=m∧1≤m∧m≤10∧es.length≤45∧Good m es∧(∀i x,es[i]?=some x→edgeC n es i x=0):=by
 rcases h with ⟨_,h,_⟩|⟨h1,h2,h3,h⟩
 · cases h
 ·
  rcases h with ⟨k,e,_,_,_,h,_⟩|⟨h,_,_⟩
  · exact absurd rfl h
  ·
   refine⟨n.toNat,by omega,by omega,by omega,h3,fun e he=>?_,h⟩;obtain⟨i,hi⟩:=List.mem_iff_getElem?.1 he;have:=h i e hi;unfold edgeC at this
   split at this
   ·
    rename_i hc;rw[show ((n.toNat:Nat):Int)=n by omega];exact hc
   · cases this
theorem Qg5{n:Int}{es:List (Int × Int)}{at_:Int}(h:ChkSays n es 0 at_):at_=0:=by
 rcases h with ⟨_,h,_⟩|⟨h1,h2,h3,h⟩
 · cases h
 ·
  rcases h with ⟨k,e,_,_,_,h,_⟩|⟨_,_,h⟩
  · exact absurd rfl h
  · exact h
def FreeSays(n:Int)(es:List (Int × Int))(w w':World)(e:Ending):Prop:=
 ∃c at_ v,e=.returned (.tuple #[v,.agg #[.int .i64 c,.int .i64 at_]])∧ChkSays n es c at_∧Below w.heap.size w w'∧
  ((c≠0∧v=.slice none 0 0)∨(c=0∧∃l,BRow w' w.heap.size v l∧RunR n.toNat (es.map toE).reverse l.reverse))
set_option maxRecDepth 100000 in
set_option maxHeartbeats 4000000 in
theorem peb_Free(n:Int)(a:Option Addr)(cap:Nat)(es:List (Int × Int))(w:World)(he:ERow w a cap es)(hlen:es.length≤maxLen):
 Calls Tryz.prog 30 #[.int .i64 n,.slice a es.length cap] w fun e w'=>FreeSays n es w w' e:=by
 have HCK:Hid (∀v,Below w.heap.size w v→Calls Tryz.prog 78 #[.int .i64 n,.slice a es.length cap] v fun e w'=>∃c at_,e=.returned (.agg #[.int .i64 c,.int .i64 at_])∧ChkSays n es c at_∧Below v.heap.size v w'):=Hi (fun v hv=>Qg0 n a cap es v (he.below hv) hlen);have HE:=Hi he;obtain⟨W,hW⟩:∃W,w.alloc (.cells #[.int .i64 0,.int .i64 0] 57)=W:=⟨_,rfl⟩;have HB0:Hid (Below w.heap.size w W):=Hi (by rw[←hW];exact(Below.refl _ _).alloc (Nat.le_refl _) _);have HS0:Hid (SB W w.heap.size 57 #[.int .i64 0,.int .i64 0]):=Hi (by rw[←hW];exact SB.new w _ _);have HW:=Hi hW;clear he hlen hW;go_enter Tryz.func30,Tryz.ntmps30;go_wp2_with fail;rw[HW.out];obtain⟨s,hs⟩:∃s,w.heap.size=s:=⟨_,rfl⟩;rw[hs] at HS0 ⊢;have HS:=Hi hs;clear hs;go_fit (HCK.out W HB0.out);rintro e w1 ⟨c,at_,rfl,hck,hb1⟩;obtain⟨V,hV⟩:∃V,w1.alloc (.cells #[.int .i64 c,.int .i64 at_] 57)=V:=⟨_,rfl⟩
 have hb2:Below W.heap.size W V:=by rw[←hV];exact hb1.alloc hb1.size _
 have HB2:=Hi (HB0.out.trans (hb2.mono HB0.out.size));have HS2:=Hi (HS0.out.below hb2 HS0.out.lt);have hp2:SB V w1.heap.size 57 #[.int .i64 c,.int .i64 at_]:=by rw[←hV];exact SB.new w1 _ _
 have HP2:=Hi hp2;have p0:V.cell? ⟨w1.heap.size,0,none⟩=some (.int .i64 c):=hp2.cell 0;have p1:V.cell? ⟨w1.heap.size,1,none⟩=some (.int .i64 at_):=hp2.cell 1;have HCH:=Hi hck;have HV:=Hi hV;rw[←hV] at p0 p1;clear hck hb1 hV hb2 hp2;by_cases hc:c=0
 ·
  subst hc;obtain rfl:=Qg5 HCH.out;obtain⟨m,rfl,hm1,hm2,hl45,hgood,hec⟩:=Qg4 HCH.out;have HG:=Hi hgood;have HNB:=Hi (Qhi m hm2 V);clear hgood hec;go_wp2_with fail;rw[HV.out];go_fit HNB.out;rintro e w2 ⟨g,gl,gp,gm,B,rfl,hpb,hbw⟩;have HP:=Hi hpb;have HB3:=Hi hbw;clear hpb hbw p0 p1;go_wp2_with fail;go_loopw [22,8] (fun iv lv wr=>∃(k:Nat) (l:List Bool) (hv:Nat→Value) (loose:Nat→Nat) (paid:Nat→List Nat) (seen:PSet),k≤es.length∧iv=.int .i64 k∧l.length=k∧BRow wr V.heap.size lv l.reverse∧After m es k l loose paid∧PB wr V.heap.size B m g gl gp gm hv loose paid seen∧Below V.heap.size V wr) (fun iv _ _=>es.length - (intOf iv).toNat)
  case atStart=>exact⟨0,[],_,_,_,_,by omega,rfl,rfl,BRow.nil _ _,After.start m es,HP.out,HB3.out⟩
  case round=>
   obtain⟨k,l,hv,loose,paid,seen,hk,rfl,hll,hbr,haf,hpb,hbw⟩:=hrel;rename_i lv;have HAF:=Hi haf;have HPB:=Hi hpb;have HBW:=Hi hbw;have HBR:=Hi hbr;have HLL:=Hi hll;clear haf hpb hbw hbr hll;by_cases hlt:k<es.length
   ·
    obtain⟨f,hf⟩:∃f,es[k]?=some f:=⟨es[k],List.getElem?_eq_getElem hlt⟩;obtain⟨x,y,hxy,hx,hy,hne,hte⟩:=HG.out.at hf;obtain⟨fb,off,rfl,hfb,d0,d1⟩:=((HE.out.below HB2.out).below HBW.out).cell k f hf;rw[hxy] at d0 d1;have HFK:=Hi hf;have HTE:=Hi hte;obtain⟨V1,hV1⟩:∃V1,wr.alloc (.cells #[.int .i64 (x:Int),.int .i64 (y:Int)] 69)=V1:=⟨_,rfl⟩;have hpv:PB V1 V.heap.size B m g gl gp gm hv loose paid seen:=by rw[←hV1];exact HPB.out.alloc _
    have HBV:Hid (Below V.heap.size V V1):=Hi (by rw[←hV1];exact HBW.out.alloc HBW.out.size _);have HRV:Hid (BRow V1 V.heap.size u8 l.reverse):=Hi (by rw[←hV1];exact HBR.out.alloc _);have HT:=Hi (Qhn hm2 V1 hv loose paid seen _ x y hpv HAF.out.2 (HAF.out.sparse HG.out) hx hy hne);have hsv:SB V1 wr.heap.size 69 #[.int .i64 (x:Int),.int .i64 (y:Int)]:=by rw[←hV1];exact SB.new wr _ _
    have p0:V1.cell? ⟨wr.heap.size,0,none⟩=some (.int .i64 (x:Int)):=hsv.cell 0;have p1:V1.cell? ⟨wr.heap.size,1,none⟩=some (.int .i64 (y:Int)):=hsv.cell 1;have q1:((k:Int)<(es.length:Int)):=by omega
    have HV1:=Hi hV1;rw[←hV1] at p0 p1;clear hf hxy hte hV1 hpv hsv hne;go_wp2_with fail;rw[HV1.out];go_fit HT.out;rintro e w3 ⟨r,hv2,loose2,paid2,seen2,rfl,hpb2,hkp2,hts⟩;have hb3:=HBV.out.trans hkp2.below;have hr3:=HRV.out.kp hkp2;obtain⟨X,hX⟩:∃X,w3.alloc (.cells #[.bool r] 4)=X:=⟨_,rfl⟩;have hrX:BRow X V.heap.size u8 l.reverse:=by rw[←hX];exact hr3.alloc _
    have hbX:Below V.heap.size V X:=by rw[←hX];exact hb3.alloc hb3.size _
    have hcX:X.cell? ⟨w3.heap.size,0,none⟩=some (.bool r):=by rw[←hX];exact(SB.new w3 4 #[.bool r]).cell 0
    have hpX:PB X V.heap.size B m g gl gp gm hv2 loose2 paid2 seen2:=by rw[←hX];exact hpb2.alloc _
    obtain⟨v',w4,happ,hr4,hg4⟩:=hrX.app (by rw[List.length_reverse,HLL.out];omega) hbX.size ⟨w3.heap.size,0,none⟩ r hcX 1;have HP4:=Hi (hpX.grownBool hg4 (fun b hb=>(hrX.block hb).2));have HB4:Hid (Below V.heap.size V w4):=Hi (hbX.trans ⟨hg4.os,hg4.tape,hg4.output,hg4.size,fun j hj=>hg4.block j (by have:=hbX.size;omega) (fun e=>by have:=(hrX.block e.symm).1;omega)⟩);have HR4:Hid (BRow w4 V.heap.size v' (r :: l).reverse):=Hi (by rw[List.reverse_cons];exact hr4);have HA4:=Hi (HAF.out.step HFK.out HTE.out hts);rw[←hX] at happ;clear hpb2 hkp2 hts d0 d1 p0 p1 hb3 hr3 hX hrX hbX hcX hpX hr4 hg4;go_wp2;go_roundw
    case rel=>exact⟨k+1,r :: l,hv2,loose2,paid2,seen2,by omega,by go_num,by simp[HLL.out],HR4.out,HA4.out,HP4.out,HB4.out⟩
    case measure=>simp[intOf];omega
   ·
    obtain rfl:k=es.length:=by omega
    have hsw:=HS2.out.below HBW.out HS2.out.lt;have HSW:=Hi hsw;have z0:wr.cell? ⟨s,0,none⟩=some (.int .i64 0):=hsw.cell 0;have z1:wr.cell? ⟨s,1,none⟩=some (.int .i64 0):=hsw.cell 1;have f0:wr.frozen? ⟨s,0,none⟩=false:=hsw.free 0;have f1:wr.frozen? ⟨s,1,none⟩=false:=hsw.free 1;clear hsw;go_wp2;refine bodyPost_ret (results_two_cell rfl _ _ s 57 #[.int .i64 0,.int .i64 0] (0,0) _ rfl ((HSW.out.set 0 _).set 1 _) Tryz.underlying57 rfl faultInfo) rfl ?_;have hbf:=HB2.out.trans (HBW.out.mono HB2.out.size);refine⟨0,0,u8,rfl,HCH.out,(hbf.setCell (by rw[HS.out];exact Nat.le_refl _) _).setCell (by rw[HS.out];exact Nat.le_refl _) _,Or.inr ⟨rfl,l.reverse,?_,?_⟩⟩
    ·
     refine(BRow.mono (B':=w.heap.size) HBR.out HB2.out.size).keep (fun b hb=>?_);have:=(HBR.out.block hb).1;have hsl:=HS2.out.lt;have hbs:b≠s:=by omega
     rw[Below.heap_setCell _ _ _ _ hbs,Below.heap_setCell _ _ _ _ hbs]
    · rw[List.reverse_reverse,←Qg3,Int.toNat_natCast]
      exact HAF.out.1
 ·
  skip;have z0:V.cell? ⟨s,0,none⟩=some (.int .i64 0):=HS2.out.cell 0;have z1:V.cell? ⟨s,1,none⟩=some (.int .i64 0):=HS2.out.cell 1;have f0:V.frozen? ⟨s,0,none⟩=false:=HS2.out.free 0;have f1:V.frozen? ⟨s,1,none⟩=false:=HS2.out.free 1;have e0:(c != 0)=true:=by simpa using hc
  go_wp2_with fail;rw[HV.out];clear p0 p1;have y0:V.cell? ⟨w1.heap.size,0,none⟩=some (.int .i64 c):=HP2.out.cell 0;have y1:V.cell? ⟨w1.heap.size,1,none⟩=some (.int .i64 at_):=HP2.out.cell 1;go_region;go_wp2;refine bodyPost_ret (results_two_cell rfl _ _ s 57 #[.int .i64 c,.int .i64 at_] (0,0) _ rfl ((HS2.out.set 0 _).set 1 _) Tryz.underlying57 rfl faultInfo) rfl ?_;exact⟨c,at_,_,rfl,HCH.out,by refine Below.drew (Below.setCell (Below.setCell HB2.out ?_ _) ?_ _)<;>(rw [HS.out];exact Nat.le_refl _),Or.inl ⟨hc,rfl⟩⟩
theorem Qm0(n:Nat)(h1:1≤n)(h2:n≤10)(w:World):Calls Tryz.prog 131 #[.int .i64 (n:Int)] w fun e w'=>e=.returned (.int .i64 ((if n=1 then 0 else 2*n - 3:Nat):Int))∧w'=w:=by
 by_cases h:n=1
 ·
  subst h;go_enter Tryz.func131,Tryz.ntmps131;go_wp2;go_ret;exact⟨rfl,rfl⟩
 ·
  have e1:((n:Int) == 1)=false:=by simpa using (by omega:(n:Int)≠1)
  go_enter Tryz.func131,Tryz.ntmps131;go_wp2;go_ret;refine⟨?_,rfl⟩
  show Ending.returned (Value.int .i64 (2*(n:Int) - 3))=Ending.returned (Value.int .i64 ((2*n - 3:Nat):Int))
  congr 2
  omega
def RigidSays(n:Int)(es:List (Int × Int))(w w':World)(e:Ending):Prop:=
 ∃c at_ b,e=.returned (.tuple #[.bool b,.agg #[.int .i64 c,.int .i64 at_]])∧ChkSays n es c at_∧Below w.heap.size w w'∧
  ((c≠0∧b=false)∨(c=0∧∃l,RunR n.toNat (es.map toE).reverse l∧b=decide (l.countP id=if n.toNat=1 then 0 else 2*n.toNat - 3)))
set_option maxRecDepth 100000 in
set_option maxHeartbeats 4000000 in
theorem Qg6(n:Int)(a:Option Addr)(cap:Nat)(es:List (Int × Int))(w:World)(he:ERow w a cap es)(hlen:es.length≤maxLen):
 Calls Tryz.prog 72 #[.int .i64 n,.slice a es.length cap] w fun e w'=>RigidSays n es w w' e:=by
 have HCK:Hid (∀v,Below w.heap.size w v→Calls Tryz.prog 78 #[.int .i64 n,.slice a es.length cap] v fun e w'=>∃c at_,e=.returned (.agg #[.int .i64 c,.int .i64 at_])∧ChkSays n es c at_∧Below v.heap.size v w'):=Hi (fun v hv=>Qg0 n a cap es v (he.below hv) hlen);have HE:=Hi he;obtain⟨W,hW⟩:∃W,w.alloc (.cells #[.int .i64 0,.int .i64 0] 57)=W:=⟨_,rfl⟩;have HB0:Hid (Below w.heap.size w W):=Hi (by rw[←hW];exact(Below.refl _ _).alloc (Nat.le_refl _) _);have HS0:Hid (SB W w.heap.size 57 #[.int .i64 0,.int .i64 0]):=Hi (by rw[←hW];exact SB.new w _ _);have HW:=Hi hW;clear he hlen hW;go_enter Tryz.func72,Tryz.ntmps72;go_wp2_with fail;rw[HW.out];obtain⟨s,hs⟩:∃s,w.heap.size=s:=⟨_,rfl⟩;rw[hs] at HS0 ⊢;have HS:=Hi hs;clear hs;go_fit (HCK.out W HB0.out);rintro e w1 ⟨c,at_,rfl,hck,hb1⟩;obtain⟨V,hV⟩:∃V,w1.alloc (.cells #[.int .i64 c,.int .i64 at_] 57)=V:=⟨_,rfl⟩
 have hb2:Below W.heap.size W V:=by rw[←hV];exact hb1.alloc hb1.size _
 have HB2:=Hi (HB0.out.trans (hb2.mono HB0.out.size));have HS2:=Hi (HS0.out.below hb2 HS0.out.lt);have hp2:SB V w1.heap.size 57 #[.int .i64 c,.int .i64 at_]:=by rw[←hV];exact SB.new w1 _ _
 have HP2:=Hi hp2;have p0:V.cell? ⟨w1.heap.size,0,none⟩=some (.int .i64 c):=hp2.cell 0;have p1:V.cell? ⟨w1.heap.size,1,none⟩=some (.int .i64 at_):=hp2.cell 1;have HCH:=Hi hck;have HV:=Hi hV;rw[←hV] at p0 p1;clear hck hb1 hV hb2 hp2;by_cases hc:c=0
 ·
  subst hc;obtain rfl:=Qg5 HCH.out;obtain⟨m,rfl,hm1,hm2,hl45,hgood,hec⟩:=Qg4 HCH.out;have HCF:=Hi (Qmy m hm2 a cap es V (HE.out.below HB2.out) hgood hl45);clear hgood hec;go_wp2_with fail;rw[HV.out];go_fit HCF.out;rintro e w2 ⟨l,rfl,hrun,hbw⟩;obtain⟨x,hx⟩:∃x,l.countP id=x:=⟨_,rfl⟩;obtain⟨y,hy⟩:∃y,(if m=1 then 0 else 2*m - 3)=y:=⟨_,rfl⟩;have HST:=Hi (Qm0 m hm1 hm2 w2);rw[hy] at HST;rw[hx];have HRUN:=Hi hrun;have HB3:=Hi (HB2.out.trans (hbw.mono HB2.out.size));have hsw:=HS2.out.below hbw HS2.out.lt;have HSW:=Hi hsw;have z0:w2.cell? ⟨s,0,none⟩=some (.int .i64 0):=hsw.cell 0;have z1:w2.cell? ⟨s,1,none⟩=some (.int .i64 0):=hsw.cell 1;have f0:w2.frozen? ⟨s,0,none⟩=false:=hsw.free 0;have f1:w2.frozen? ⟨s,1,none⟩=false:=hsw.free 1;have HX:=Hi hx;have HY:=Hi hy;clear hrun hbw hsw hx hy p0 p1;go_wp2_with fail;go_fit HST.out;rintro e w3 ⟨rfl,rfl⟩;go_wp2
  refine bodyPost_ret (results_two_cell rfl _ _ s 57 #[.int .i64 0,.int .i64 0] (0,0) _ rfl ((HSW.out.set 0 _).set 1 _) Tryz.underlying57 rfl faultInfo) rfl ?_;refine⟨0,0,_,rfl,HCH.out,by refine Below.setCell (Below.setCell HB3.out ?_ _) ?_ _<;>(rw [HS.out];exact Nat.le_refl _),Or.inr ⟨rfl,l,?_,?_⟩⟩
  · rw[Int.toNat_natCast];exact HRUN.out
  ·
   rw[Int.toNat_natCast,HX.out,HY.out];by_cases h:x=y
   · simp[h]
   · simp[h]
     omega
 ·
  skip;have z0:V.cell? ⟨s,0,none⟩=some (.int .i64 0):=HS2.out.cell 0;have z1:V.cell? ⟨s,1,none⟩=some (.int .i64 0):=HS2.out.cell 1;have f0:V.frozen? ⟨s,0,none⟩=false:=HS2.out.free 0;have f1:V.frozen? ⟨s,1,none⟩=false:=HS2.out.free 1;have e0:(c != 0)=true:=by simpa using hc
  go_wp2_with fail;rw[HV.out];clear p0 p1;have y0:V.cell? ⟨w1.heap.size,0,none⟩=some (.int .i64 c):=HP2.out.cell 0;have y1:V.cell? ⟨w1.heap.size,1,none⟩=some (.int .i64 at_):=HP2.out.cell 1;go_region;go_wp2;refine bodyPost_ret (results_two_cell rfl _ _ s 57 #[.int .i64 c,.int .i64 at_] (0,0) _ rfl ((HS2.out.set 0 _).set 1 _) Tryz.underlying57 rfl faultInfo) rfl ?_;exact⟨c,at_,false,rfl,HCH.out,by refine Below.drew (Below.setCell (Below.setCell HB2.out ?_ _) ?_ _)<;>(rw [HS.out];exact Nat.le_refl _),Or.inl ⟨hc,rfl⟩⟩
end Go.Proofs.YtbbkamnfjejceaaGreatDoor.Peb
