/- Laid together: what the claim needs of the texts that were built one by one. -/
import Derived.Test.YtdmhihcipkhecaaGreatR21
import Derived.Test.YtdmhihcipkhecaaGreatR0
set_option linter.unusedVariables false
namespace Go.Proofs.YtdmhihcipkhecaaGreat
open Go.ChangeShapes Go.WideShapes Go.ChangeAt Go.RowKit
/-- The reader stays where only other blocks are written. -/
theorem Rd.kpS{R:Nat}{w w':World}{a:Option Addr}{len cap p:Nat}(h:Rd R w a len cap p)(hR:R<w.heap.size)(hb:Below (R+1) w w'):Rd R w' a len cap p:=h.up hb
theorem el4m(y:Int)(h3:0≤y)(h4:y<4):∃t:Int,(#[Value.int .i64 1,.int .i64 10,.int .i64 60,.int .i64 1000]:Array Value)[y.toNat]? =some (.int .i64 t)∧([Value.int .i64 1,.int .i64 10,.int .i64 60,.int .i64 1000]:List Value)[y.toNat]? =some (.int .i64 t)∧(∀h,([Value.int .i64 1,.int .i64 10,.int .i64 60,.int .i64 1000]:List Value)[y.toNat]'h= .int .i64 t)∧1≤t∧t≤1000:=by
 have:y=0∨y=1∨y=2∨y=3:=by omega
 rcases this with rfl|rfl|rfl|rfl
 ·exact⟨1,rfl,rfl,fun _=>rfl,by omega,by omega⟩
 ·exact⟨10,rfl,rfl,fun _=>rfl,by omega,by omega⟩
 ·exact⟨60,rfl,rfl,fun _=>rfl,by omega,by omega⟩
 ·exact⟨1000,rfl,rfl,fun _=>rfl,by omega,by omega⟩
theorem el3w(y:Int)(h3:0≤y)(h4:y<3):∃t:Int,(#[Value.int .i64 1,.int .i64 2,.int .i64 900]:Array Value)[y.toNat]? =some (.int .i64 t)∧([Value.int .i64 1,.int .i64 2,.int .i64 900]:List Value)[y.toNat]? =some (.int .i64 t)∧(∀h,([Value.int .i64 1,.int .i64 2,.int .i64 900]:List Value)[y.toNat]'h= .int .i64 t)∧1≤t∧t≤900:=by
 have:y=0∨y=1∨y=2:=by omega
 rcases this with rfl|rfl|rfl
 ·exact⟨1,rfl,rfl,fun _=>rfl,by omega,by omega⟩
 ·exact⟨2,rfl,rfl,fun _=>rfl,by omega,by omega⟩
 ·exact⟨900,rfl,rfl,fun _=>rfl,by omega,by omega⟩
theorem el7(y:Int)(h3:0≤y)(h4:y<7):∃t:Int,(#[Value.int .i64 (-1),.int .i64 0,.int .i64 61,.int .i64 4,.int .i64 10,.int .i64 1000,.int .i64 901]:Array Value)[y.toNat]? =some (.int .i64 t)∧([Value.int .i64 (-1),.int .i64 0,.int .i64 61,.int .i64 4,.int .i64 10,.int .i64 1000,.int .i64 901]:List Value)[y.toNat]? =some (.int .i64 t)∧(∀h,([Value.int .i64 (-1),.int .i64 0,.int .i64 61,.int .i64 4,.int .i64 10,.int .i64 1000,.int .i64 901]:List Value)[y.toNat]'h= .int .i64 t)∧(-1)≤t∧t≤1000:=by
 have:y=0∨y=1∨y=2∨y=3∨y=4∨y=5∨y=6:=by omega
 rcases this with rfl|rfl|rfl|rfl|rfl|rfl|rfl
 ·exact⟨(-1),rfl,rfl,fun _=>rfl,by omega,by omega⟩
 ·exact⟨0,rfl,rfl,fun _=>rfl,by omega,by omega⟩
 ·exact⟨61,rfl,rfl,fun _=>rfl,by omega,by omega⟩
 ·exact⟨4,rfl,rfl,fun _=>rfl,by omega,by omega⟩
 ·exact⟨10,rfl,rfl,fun _=>rfl,by omega,by omega⟩
 ·exact⟨1000,rfl,rfl,fun _=>rfl,by omega,by omega⟩
 ·exact⟨901,rfl,rfl,fun _=>rfl,by omega,by omega⟩
/-- What a drawn item is. -/
def ItmP(R:Nat)(w:World)(a:Option Addr)(len cap p:Nat)(e:Ending)(w':World):Prop:=∃q t k v n:Int,e= .returned (.agg #[.int .i64 q,.int .i64 t,.int .i64 k,.int .i64 v,.int .i64 n])∧Kp R w w'∧∃p',p'≤p+12∧Rd R w' a len cap p'
theorem nU{p:Prop}(h:p:=by repeat(first|(with_reducible refine bu ?_ (sA) (oK) _)|(with_reducible assumption)|(with_reducible exact Kp.refl _ _)|(with_reducible refine bT ?_ _)|(with_reducible refine aZ (oK) ?_ _)|(with_reducible refine bw ?_)|(with_reducible refine bc ?_ _)|(with_reducible refine Kp.trans ?_ (oK)))):p:=h
theorem nZ{p:Prop}(h:p:=by repeat(first|(with_reducible exact Below.refl _ _)|(with_reducible refine Below.setCell ?_ (oM) _)|(with_reducible refine aW ?_ (oN) _)|(with_reducible refine Below.drew ?_))):p:=h
set_option maxRecDepth 20000 in
set_option maxHeartbeats 16000000 in
theorem item_any(R:Nat)(a:Option Addr)(len cap p:Nat)(n:Int)(w:World)(hn:1≤n)(hn2:n≤100000)(hp:p≤700000)(hR:R<w.heap.size)(h:Rd R w a len cap p):Calls Tryz.prog 27 #[.pointer (some ⟨R,0,none⟩),.int .i64 n] w fun e w'=>ItmP R w a len cap p e w':=by
 have r0:=ae h
 have hn0:w.heap.size≠R:=by omega
 clear h
 go_enter Tryz.func27,Tryz.ntmps27
 go_wp2_with fail
 (with_reducible refine(mx R a len cap p _ (by omega) (oC) ((ab r0).kp hR (oa))).mono ?_)
 rintro e wa ⟨t,k,v,rfl,bt,bk,bv,kwa,qwa⟩
 have rwa:=ae qwa
 clear qwa
 have zwa:=kwa.low.size
 have hRwa:R<wa.heap.size:=(by have h9:=kwa.low.size;(try simp at h9);omega)
 have hnwa:wa.heap.size≠R:=(by omega)
 have hcwa:=(fun b o hb hn=>kwa.cell (b:=b) (o:=o) hb hn)
 have hfwa:=(fun b o hb hn=>kwa.frozen (b:=b) (o:=o) hb hn)
 have xzwa:w.heap.size<wa.heap.size:=(by(try simp at zwa);omega)
 have xywa:w.heap.size≤wa.heap.size:=(by omega)
 have x0wa:wa.cell? ⟨w.heap.size,0,none⟩=some (.int .i64 0):=((hcwa _ 0 (oC) hn0).trans (oc))
 have xf0wa:wa.frozen? ⟨w.heap.size,0,none⟩=false:=((hfwa _ 0 (oC) hn0).trans (oc))
 have x1wa:wa.cell? ⟨w.heap.size,1,none⟩=some (.int .i64 0):=((hcwa _ 1 (oC) hn0).trans (oc))
 have xf1wa:wa.frozen? ⟨w.heap.size,1,none⟩=false:=((hfwa _ 1 (oC) hn0).trans (oc))
 have x2wa:wa.cell? ⟨w.heap.size,2,none⟩=some (.int .i64 0):=((hcwa _ 2 (oC) hn0).trans (oc))
 have xf2wa:wa.frozen? ⟨w.heap.size,2,none⟩=false:=((hfwa _ 2 (oC) hn0).trans (oc))
 have x3wa:wa.cell? ⟨w.heap.size,3,none⟩=some (.int .i64 0):=((hcwa _ 3 (oC) hn0).trans (oc))
 have xf3wa:wa.frozen? ⟨w.heap.size,3,none⟩=false:=((hfwa _ 3 (oC) hn0).trans (oc))
 have x4wa:wa.cell? ⟨w.heap.size,4,none⟩=some (.int .i64 0):=((hcwa _ 4 (oC) hn0).trans (oc))
 have xf4wa:wa.frozen? ⟨w.heap.size,4,none⟩=false:=((hfwa _ 4 (oC) hn0).trans (oc))
 have hn2wa:wa.heap.size+1≠R:=(by omega)
 clear hcwa hfwa
 go_wp2_with fail
 (with_reducible refine(aI R a len cap (p+4) 4 _ (by omega) (by omega) ((ab rwa).kpS hRwa (nZ))).mono ?_)
 rintro e wb ⟨y,rfl,by1,by2,kwb,qwb⟩
 have rwb:=ae (qwb (by omega))
 clear qwb
 have zwb:=kwb.low.size
 have hRwb:R<wb.heap.size:=(by have h9:=kwb.low.size;(try simp at h9);omega)
 have hnwb:wb.heap.size≠R:=(by omega)
 have hcwb:=(fun b o hb hn=>kwb.cell (b:=b) (o:=o) hb hn)
 have hfwb:=(fun b o hb hn=>kwb.frozen (b:=b) (o:=o) hb hn)
 have xzwb:w.heap.size<wb.heap.size:=(by(try simp at zwb);omega)
 have xywb:w.heap.size≤wb.heap.size:=(by omega)
 have x0wb:wb.cell? ⟨w.heap.size,0,none⟩=some (.int .i64 0):=((hcwb _ 0 (oC) hn0).trans (oc))
 have xf0wb:wb.frozen? ⟨w.heap.size,0,none⟩=false:=((hfwb _ 0 (oC) hn0).trans (oc))
 have x1wb:wb.cell? ⟨w.heap.size,1,none⟩=some (.int .i64 0):=((hcwb _ 1 (oC) hn0).trans (oc))
 have xf1wb:wb.frozen? ⟨w.heap.size,1,none⟩=false:=((hfwb _ 1 (oC) hn0).trans (oc))
 have x2wb:wb.cell? ⟨w.heap.size,2,none⟩=some (.int .i64 0):=((hcwb _ 2 (oC) hn0).trans (oc))
 have xf2wb:wb.frozen? ⟨w.heap.size,2,none⟩=false:=((hfwb _ 2 (oC) hn0).trans (oc))
 have x3wb:wb.cell? ⟨w.heap.size,3,none⟩=some (.int .i64 0):=((hcwb _ 3 (oC) hn0).trans (oc))
 have xf3wb:wb.frozen? ⟨w.heap.size,3,none⟩=false:=((hfwb _ 3 (oC) hn0).trans (oc))
 have x4wb:wb.cell? ⟨w.heap.size,4,none⟩=some (.int .i64 0):=((hcwb _ 4 (oC) hn0).trans (oc))
 have xf4wb:wb.frozen? ⟨w.heap.size,4,none⟩=false:=((hfwb _ 4 (oC) hn0).trans (oc))
 have yzwb:wa.heap.size<wb.heap.size:=(by(try simp at zwb);omega)
 have yywb:wa.heap.size≤wb.heap.size:=(by omega)
 have y0wb:wb.cell? ⟨wa.heap.size,0,none⟩=some (.int .i64 1):=((hcwb _ 0 (oC) hnwa).trans (oc))
 have yf0wb:wb.frozen? ⟨wa.heap.size,0,none⟩=false:=((hfwb _ 0 (oC) hnwa).trans (oc))
 have y1wb:wb.cell? ⟨wa.heap.size,1,none⟩=some (.int .i64 t):=((hcwb _ 1 (oC) hnwa).trans (oc))
 have yf1wb:wb.frozen? ⟨wa.heap.size,1,none⟩=false:=((hfwb _ 1 (oC) hnwa).trans (oc))
 have y2wb:wb.cell? ⟨wa.heap.size,2,none⟩=some (.int .i64 k):=((hcwb _ 2 (oC) hnwa).trans (oc))
 have yf2wb:wb.frozen? ⟨wa.heap.size,2,none⟩=false:=((hfwb _ 2 (oC) hnwa).trans (oc))
 have y3wb:wb.cell? ⟨wa.heap.size,3,none⟩=some (.int .i64 v):=((hcwb _ 3 (oC) hnwa).trans (oc))
 have yf3wb:wb.frozen? ⟨wa.heap.size,3,none⟩=false:=((hfwb _ 3 (oC) hnwa).trans (oc))
 have y4wb:wb.cell? ⟨wa.heap.size,4,none⟩=some (.int .i64 0):=((hcwb _ 4 (oC) hnwa).trans (oc))
 have yf4wb:wb.frozen? ⟨wa.heap.size,4,none⟩=false:=((hfwb _ 4 (oC) hnwa).trans (oc))
 have hn2wb:wb.heap.size+1≠R:=(by omega)
 clear hcwb hfwb x0wa xf0wa x1wa xf1wa x2wa xf2wa x3wa xf3wa x4wa xf4wa
 by_cases hy0:y=0
 ·subst hy0
  go_wp2_with fail
  (with_reducible refine(aI R a len cap (p+5) 4 _ (by omega) (by omega) ((ab rwb).kpS hRwb (nZ))).mono ?_)
  rintro e wc ⟨u,rfl,bu1,bu2,kwc,qwc⟩
  have rwc:=ae (qwc (by omega))
  clear qwc
  have zwc:=kwc.low.size
  have hRwc:R<wc.heap.size:=(by have h9:=kwc.low.size;(try simp at h9);omega)
  have hnwc:wc.heap.size≠R:=(by omega)
  have hcwc:=(fun b o hb hn=>kwc.cell (b:=b) (o:=o) hb hn)
  have hfwc:=(fun b o hb hn=>kwc.frozen (b:=b) (o:=o) hb hn)
  have xzwc:w.heap.size<wc.heap.size:=(by(try simp at zwc);omega)
  have xywc:w.heap.size≤wc.heap.size:=(by omega)
  have x0wc:wc.cell? ⟨w.heap.size,0,none⟩=some (.int .i64 0):=((hcwc _ 0 (oC) hn0).trans (oc))
  have xf0wc:wc.frozen? ⟨w.heap.size,0,none⟩=false:=((hfwc _ 0 (oC) hn0).trans (oc))
  have x1wc:wc.cell? ⟨w.heap.size,1,none⟩=some (.int .i64 0):=((hcwc _ 1 (oC) hn0).trans (oc))
  have xf1wc:wc.frozen? ⟨w.heap.size,1,none⟩=false:=((hfwc _ 1 (oC) hn0).trans (oc))
  have x2wc:wc.cell? ⟨w.heap.size,2,none⟩=some (.int .i64 0):=((hcwc _ 2 (oC) hn0).trans (oc))
  have xf2wc:wc.frozen? ⟨w.heap.size,2,none⟩=false:=((hfwc _ 2 (oC) hn0).trans (oc))
  have x3wc:wc.cell? ⟨w.heap.size,3,none⟩=some (.int .i64 0):=((hcwc _ 3 (oC) hn0).trans (oc))
  have xf3wc:wc.frozen? ⟨w.heap.size,3,none⟩=false:=((hfwc _ 3 (oC) hn0).trans (oc))
  have x4wc:wc.cell? ⟨w.heap.size,4,none⟩=some (.int .i64 0):=((hcwc _ 4 (oC) hn0).trans (oc))
  have xf4wc:wc.frozen? ⟨w.heap.size,4,none⟩=false:=((hfwc _ 4 (oC) hn0).trans (oc))
  have yzwc:wa.heap.size<wc.heap.size:=(by(try simp at zwc);omega)
  have yywc:wa.heap.size≤wc.heap.size:=(by omega)
  have y0wc:wc.cell? ⟨wa.heap.size,0,none⟩=some (.int .i64 1):=((hcwc _ 0 (oC) hnwa).trans (oc))
  have yf0wc:wc.frozen? ⟨wa.heap.size,0,none⟩=false:=((hfwc _ 0 (oC) hnwa).trans (oc))
  have y1wc:wc.cell? ⟨wa.heap.size,1,none⟩=some (.int .i64 t):=((hcwc _ 1 (oC) hnwa).trans (oc))
  have yf1wc:wc.frozen? ⟨wa.heap.size,1,none⟩=false:=((hfwc _ 1 (oC) hnwa).trans (oc))
  have y2wc:wc.cell? ⟨wa.heap.size,2,none⟩=some (.int .i64 k):=((hcwc _ 2 (oC) hnwa).trans (oc))
  have yf2wc:wc.frozen? ⟨wa.heap.size,2,none⟩=false:=((hfwc _ 2 (oC) hnwa).trans (oc))
  have y3wc:wc.cell? ⟨wa.heap.size,3,none⟩=some (.int .i64 v):=((hcwc _ 3 (oC) hnwa).trans (oc))
  have yf3wc:wc.frozen? ⟨wa.heap.size,3,none⟩=false:=((hfwc _ 3 (oC) hnwa).trans (oc))
  have y4wc:wc.cell? ⟨wa.heap.size,4,none⟩=some (.int .i64 0):=((hcwc _ 4 (oC) hnwa).trans (oc))
  have yf4wc:wc.frozen? ⟨wa.heap.size,4,none⟩=false:=((hfwc _ 4 (oC) hnwa).trans (oc))
  have hn2wc:wc.heap.size+1≠R:=(by omega)
  obtain⟨m,hm,hm',hm'',bm1,bm2⟩:=el4m u bu1 bu2
  go_wp2_with fail
  clear hcwc hfwc
  (with_reducible refine(aI R a len cap (p+6) n _ (by omega) (by omega) ((ab rwc).kpS hRwc (nZ))).mono ?_)
  rintro e wf ⟨z,rfl,bz1,bz2,kwf,qwf⟩
  have rwf:=ae (qwf (by omega))
  clear qwf
  have zwf:=kwf.low.size
  have hRwf:R<wf.heap.size:=(by have h9:=kwf.low.size;(try simp at h9);omega)
  have hnwf:wf.heap.size≠R:=(by omega)
  have hcwf:=(fun b o hb hn=>kwf.cell (b:=b) (o:=o) hb hn)
  have hfwf:=(fun b o hb hn=>kwf.frozen (b:=b) (o:=o) hb hn)
  have xzwf:w.heap.size<wf.heap.size:=(by(try simp at zwf);omega)
  have xywf:w.heap.size≤wf.heap.size:=(by omega)
  have x0wf:wf.cell? ⟨w.heap.size,0,none⟩=some (.int .i64 0):=((hcwf _ 0 (oC) hn0).trans (oc))
  have xf0wf:wf.frozen? ⟨w.heap.size,0,none⟩=false:=((hfwf _ 0 (oC) hn0).trans (oc))
  have x1wf:wf.cell? ⟨w.heap.size,1,none⟩=some (.int .i64 0):=((hcwf _ 1 (oC) hn0).trans (oc))
  have xf1wf:wf.frozen? ⟨w.heap.size,1,none⟩=false:=((hfwf _ 1 (oC) hn0).trans (oc))
  have x2wf:wf.cell? ⟨w.heap.size,2,none⟩=some (.int .i64 0):=((hcwf _ 2 (oC) hn0).trans (oc))
  have xf2wf:wf.frozen? ⟨w.heap.size,2,none⟩=false:=((hfwf _ 2 (oC) hn0).trans (oc))
  have x3wf:wf.cell? ⟨w.heap.size,3,none⟩=some (.int .i64 0):=((hcwf _ 3 (oC) hn0).trans (oc))
  have xf3wf:wf.frozen? ⟨w.heap.size,3,none⟩=false:=((hfwf _ 3 (oC) hn0).trans (oc))
  have x4wf:wf.cell? ⟨w.heap.size,4,none⟩=some (.int .i64 0):=((hcwf _ 4 (oC) hn0).trans (oc))
  have xf4wf:wf.frozen? ⟨w.heap.size,4,none⟩=false:=((hfwf _ 4 (oC) hn0).trans (oc))
  have yzwf:wa.heap.size<wf.heap.size:=(by(try simp at zwf);omega)
  have yywf:wa.heap.size≤wf.heap.size:=(by omega)
  have y0wf:wf.cell? ⟨wa.heap.size,0,none⟩=some (.int .i64 2):=((hcwf _ 0 (oC) hnwa).trans (oc))
  have yf0wf:wf.frozen? ⟨wa.heap.size,0,none⟩=false:=((hfwf _ 0 (oC) hnwa).trans (oc))
  have y1wf:wf.cell? ⟨wa.heap.size,1,none⟩=some (.int .i64 m):=((hcwf _ 1 (oC) hnwa).trans (oc))
  have yf1wf:wf.frozen? ⟨wa.heap.size,1,none⟩=false:=((hfwf _ 1 (oC) hnwa).trans (oc))
  have y2wf:wf.cell? ⟨wa.heap.size,2,none⟩=some (.int .i64 0):=((hcwf _ 2 (oC) hnwa).trans (oc))
  have yf2wf:wf.frozen? ⟨wa.heap.size,2,none⟩=false:=((hfwf _ 2 (oC) hnwa).trans (oc))
  have y3wf:wf.cell? ⟨wa.heap.size,3,none⟩=some (.int .i64 0):=((hcwf _ 3 (oC) hnwa).trans (oc))
  have yf3wf:wf.frozen? ⟨wa.heap.size,3,none⟩=false:=((hfwf _ 3 (oC) hnwa).trans (oc))
  have y4wf:wf.cell? ⟨wa.heap.size,4,none⟩=some (.int .i64 0):=((hcwf _ 4 (oC) hnwa).trans (oc))
  have yf4wf:wf.frozen? ⟨wa.heap.size,4,none⟩=false:=((hfwf _ 4 (oC) hnwa).trans (oc))
  have hn2wf:wf.heap.size+1≠R:=(by omega)
  clear hcwf hfwf x0wb xf0wb x1wb xf1wb x2wb xf2wb x3wb xf3wb x4wb xf4wb y0wb yf0wb y1wb yf1wb y2wb yf2wb y3wb yf3wb y4wb yf4wb x0wc xf0wc x1wc xf1wc x2wc xf2wc x3wc xf3wc x4wc xf4wc y0wc yf0wc y1wc yf1wc y2wc yf2wc y3wc yf3wc y4wc yf4wc
  by_cases hz:0<z
  ·go_wp2
   refine bodyPost_ret (v:= .agg #[.int .i64 2,.int .i64 m,.int .i64 0,.int .i64 0,.int .i64 0]) (oz) rfl ⟨2,m,0,0,0,rfl,(nU),((p+6)+1),by omega,(ab rwf).up (nZ)⟩
  ·go_wp2_with fail
   (with_reducible refine(aI R a len cap ((p+6)+1) 7 _ (by omega) (by omega) ((ab rwf).kpS hRwf (nZ))).mono ?_)
   rintro e wg ⟨c,rfl,bc1,bc2,kwg,qwg⟩
   have rwg:=ae (qwg (by omega))
   clear qwg
   have zwg:=kwg.low.size
   have hRwg:R<wg.heap.size:=(by have h9:=kwg.low.size;(try simp at h9);omega)
   have hnwg:wg.heap.size≠R:=(by omega)
   have hcwg:=(fun b o hb hn=>kwg.cell (b:=b) (o:=o) hb hn)
   have hfwg:=(fun b o hb hn=>kwg.frozen (b:=b) (o:=o) hb hn)
   have xzwg:w.heap.size<wg.heap.size:=(by(try simp at zwg);omega)
   have xywg:w.heap.size≤wg.heap.size:=(by omega)
   have x0wg:wg.cell? ⟨w.heap.size,0,none⟩=some (.int .i64 0):=((hcwg _ 0 (oC) hn0).trans (oc))
   have xf0wg:wg.frozen? ⟨w.heap.size,0,none⟩=false:=((hfwg _ 0 (oC) hn0).trans (oc))
   have x1wg:wg.cell? ⟨w.heap.size,1,none⟩=some (.int .i64 0):=((hcwg _ 1 (oC) hn0).trans (oc))
   have xf1wg:wg.frozen? ⟨w.heap.size,1,none⟩=false:=((hfwg _ 1 (oC) hn0).trans (oc))
   have x2wg:wg.cell? ⟨w.heap.size,2,none⟩=some (.int .i64 0):=((hcwg _ 2 (oC) hn0).trans (oc))
   have xf2wg:wg.frozen? ⟨w.heap.size,2,none⟩=false:=((hfwg _ 2 (oC) hn0).trans (oc))
   have x3wg:wg.cell? ⟨w.heap.size,3,none⟩=some (.int .i64 0):=((hcwg _ 3 (oC) hn0).trans (oc))
   have xf3wg:wg.frozen? ⟨w.heap.size,3,none⟩=false:=((hfwg _ 3 (oC) hn0).trans (oc))
   have x4wg:wg.cell? ⟨w.heap.size,4,none⟩=some (.int .i64 0):=((hcwg _ 4 (oC) hn0).trans (oc))
   have xf4wg:wg.frozen? ⟨w.heap.size,4,none⟩=false:=((hfwg _ 4 (oC) hn0).trans (oc))
   have yzwg:wa.heap.size<wg.heap.size:=(by(try simp at zwg);omega)
   have yywg:wa.heap.size≤wg.heap.size:=(by omega)
   have y0wg:wg.cell? ⟨wa.heap.size,0,none⟩=some (.int .i64 2):=((hcwg _ 0 (oC) hnwa).trans (oc))
   have yf0wg:wg.frozen? ⟨wa.heap.size,0,none⟩=false:=((hfwg _ 0 (oC) hnwa).trans (oc))
   have y1wg:wg.cell? ⟨wa.heap.size,1,none⟩=some (.int .i64 m):=((hcwg _ 1 (oC) hnwa).trans (oc))
   have yf1wg:wg.frozen? ⟨wa.heap.size,1,none⟩=false:=((hfwg _ 1 (oC) hnwa).trans (oc))
   have y2wg:wg.cell? ⟨wa.heap.size,2,none⟩=some (.int .i64 0):=((hcwg _ 2 (oC) hnwa).trans (oc))
   have yf2wg:wg.frozen? ⟨wa.heap.size,2,none⟩=false:=((hfwg _ 2 (oC) hnwa).trans (oc))
   have y3wg:wg.cell? ⟨wa.heap.size,3,none⟩=some (.int .i64 0):=((hcwg _ 3 (oC) hnwa).trans (oc))
   have yf3wg:wg.frozen? ⟨wa.heap.size,3,none⟩=false:=((hfwg _ 3 (oC) hnwa).trans (oc))
   have y4wg:wg.cell? ⟨wa.heap.size,4,none⟩=some (.int .i64 0):=((hcwg _ 4 (oC) hnwa).trans (oc))
   have yf4wg:wg.frozen? ⟨wa.heap.size,4,none⟩=false:=((hfwg _ 4 (oC) hnwa).trans (oc))
   have hn2wg:wg.heap.size+1≠R:=(by omega)
   obtain⟨d,hd,hd',hd'',bd1,bd2⟩:=el7 c bc1 bc2
   go_wp2_with fail
   clear hcwg hfwg
   (with_reducible refine(aI R a len cap ((p+6)+2) 5 _ (by omega) (by omega) ((ab rwg).kpS hRwg (nZ))).mono ?_)
   rintro e wh ⟨f,rfl,bf1,bf2,kwh,qwh⟩
   have rwh:=ae (qwh (by omega))
   clear qwh
   have zwh:=kwh.low.size
   have hRwh:R<wh.heap.size:=(by have h9:=kwh.low.size;(try simp at h9);omega)
   have hnwh:wh.heap.size≠R:=(by omega)
   have hcwh:=(fun b o hb hn=>kwh.cell (b:=b) (o:=o) hb hn)
   have hfwh:=(fun b o hb hn=>kwh.frozen (b:=b) (o:=o) hb hn)
   have xzwh:w.heap.size<wh.heap.size:=(by(try simp at zwh);omega)
   have xywh:w.heap.size≤wh.heap.size:=(by omega)
   have x0wh:wh.cell? ⟨w.heap.size,0,none⟩=some (.int .i64 0):=((hcwh _ 0 (oC) hn0).trans (oc))
   have xf0wh:wh.frozen? ⟨w.heap.size,0,none⟩=false:=((hfwh _ 0 (oC) hn0).trans (oc))
   have x1wh:wh.cell? ⟨w.heap.size,1,none⟩=some (.int .i64 0):=((hcwh _ 1 (oC) hn0).trans (oc))
   have xf1wh:wh.frozen? ⟨w.heap.size,1,none⟩=false:=((hfwh _ 1 (oC) hn0).trans (oc))
   have x2wh:wh.cell? ⟨w.heap.size,2,none⟩=some (.int .i64 0):=((hcwh _ 2 (oC) hn0).trans (oc))
   have xf2wh:wh.frozen? ⟨w.heap.size,2,none⟩=false:=((hfwh _ 2 (oC) hn0).trans (oc))
   have x3wh:wh.cell? ⟨w.heap.size,3,none⟩=some (.int .i64 0):=((hcwh _ 3 (oC) hn0).trans (oc))
   have xf3wh:wh.frozen? ⟨w.heap.size,3,none⟩=false:=((hfwh _ 3 (oC) hn0).trans (oc))
   have x4wh:wh.cell? ⟨w.heap.size,4,none⟩=some (.int .i64 0):=((hcwh _ 4 (oC) hn0).trans (oc))
   have xf4wh:wh.frozen? ⟨w.heap.size,4,none⟩=false:=((hfwh _ 4 (oC) hn0).trans (oc))
   have yzwh:wa.heap.size<wh.heap.size:=(by(try simp at zwh);omega)
   have yywh:wa.heap.size≤wh.heap.size:=(by omega)
   have y0wh:wh.cell? ⟨wa.heap.size,0,none⟩=some (.int .i64 2):=((hcwh _ 0 (oC) hnwa).trans (oc))
   have yf0wh:wh.frozen? ⟨wa.heap.size,0,none⟩=false:=((hfwh _ 0 (oC) hnwa).trans (oc))
   have y1wh:wh.cell? ⟨wa.heap.size,1,none⟩=some (.int .i64 m):=((hcwh _ 1 (oC) hnwa).trans (oc))
   have yf1wh:wh.frozen? ⟨wa.heap.size,1,none⟩=false:=((hfwh _ 1 (oC) hnwa).trans (oc))
   have y2wh:wh.cell? ⟨wa.heap.size,2,none⟩=some (.int .i64 0):=((hcwh _ 2 (oC) hnwa).trans (oc))
   have yf2wh:wh.frozen? ⟨wa.heap.size,2,none⟩=false:=((hfwh _ 2 (oC) hnwa).trans (oc))
   have y3wh:wh.cell? ⟨wa.heap.size,3,none⟩=some (.int .i64 0):=((hcwh _ 3 (oC) hnwa).trans (oc))
   have yf3wh:wh.frozen? ⟨wa.heap.size,3,none⟩=false:=((hfwh _ 3 (oC) hnwa).trans (oc))
   have y4wh:wh.cell? ⟨wa.heap.size,4,none⟩=some (.int .i64 0):=((hcwh _ 4 (oC) hnwa).trans (oc))
   have yf4wh:wh.frozen? ⟨wa.heap.size,4,none⟩=false:=((hfwh _ 4 (oC) hnwa).trans (oc))
   have hn2wh:wh.heap.size+1≠R:=(by omega)
   clear hcwh hfwh x0wf xf0wf x1wf xf1wf x2wf xf2wf x3wf xf3wf x4wf xf4wf y0wf yf0wf y1wf yf1wf y2wf yf2wf y3wf yf3wf y4wf yf4wf x0wg xf0wg x1wg xf1wg x2wg xf2wg x3wg xf3wg x4wg xf4wg y0wg yf0wg y1wg yf1wg y2wg yf2wg y3wg yf3wg y4wg yf4wg
   have hff:f=0∨f=1∨f=2∨f=3∨f=4:=by omega
   rcases hff with rfl|rfl|rfl|rfl|rfl
   ·go_wp2
    refine bodyPost_ret (v:= .agg #[.int .i64 d,.int .i64 m,.int .i64 0,.int .i64 0,.int .i64 0]) (oz) rfl ⟨d,m,0,0,0,rfl,(nU),((p+6)+3),by omega,(ab rwh).up (nZ)⟩
   ·go_wp2
    refine bodyPost_ret (v:= .agg #[.int .i64 2,.int .i64 d,.int .i64 0,.int .i64 0,.int .i64 0]) (oz) rfl ⟨2,d,0,0,0,rfl,(nU),((p+6)+3),by omega,(ab rwh).up (nZ)⟩
   ·go_wp2
    refine bodyPost_ret (v:= .agg #[.int .i64 2,.int .i64 m,.int .i64 d,.int .i64 0,.int .i64 0]) (oz) rfl ⟨2,m,d,0,0,rfl,(nU),((p+6)+3),by omega,(ab rwh).up (nZ)⟩
   ·go_wp2
    refine bodyPost_ret (v:= .agg #[.int .i64 2,.int .i64 m,.int .i64 0,.int .i64 d,.int .i64 0]) (oz) rfl ⟨2,m,0,d,0,rfl,(nU),((p+6)+3),by omega,(ab rwh).up (nZ)⟩
   ·go_wp2
    refine bodyPost_ret (v:= .agg #[.int .i64 2,.int .i64 m,.int .i64 0,.int .i64 0,.int .i64 d]) (oz) rfl ⟨2,m,0,0,d,rfl,(nU),((p+6)+3),by omega,(ab rwh).up (nZ)⟩
 by_cases hy1:y=1
 ·subst hy1
  go_wp2_with fail
  (with_reducible refine(aI R a len cap (p+5) 3 _ (by omega) (by omega) ((ab rwb).kpS hRwb (nZ))).mono ?_)
  rintro e wc ⟨u,rfl,bu1,bu2,kwc,qwc⟩
  have rwc:=ae (qwc (by omega))
  clear qwc
  have zwc:=kwc.low.size
  have hRwc:R<wc.heap.size:=(by have h9:=kwc.low.size;(try simp at h9);omega)
  have hnwc:wc.heap.size≠R:=(by omega)
  have hcwc:=(fun b o hb hn=>kwc.cell (b:=b) (o:=o) hb hn)
  have hfwc:=(fun b o hb hn=>kwc.frozen (b:=b) (o:=o) hb hn)
  have xzwc:w.heap.size<wc.heap.size:=(by(try simp at zwc);omega)
  have xywc:w.heap.size≤wc.heap.size:=(by omega)
  have x0wc:wc.cell? ⟨w.heap.size,0,none⟩=some (.int .i64 0):=((hcwc _ 0 (oC) hn0).trans (oc))
  have xf0wc:wc.frozen? ⟨w.heap.size,0,none⟩=false:=((hfwc _ 0 (oC) hn0).trans (oc))
  have x1wc:wc.cell? ⟨w.heap.size,1,none⟩=some (.int .i64 0):=((hcwc _ 1 (oC) hn0).trans (oc))
  have xf1wc:wc.frozen? ⟨w.heap.size,1,none⟩=false:=((hfwc _ 1 (oC) hn0).trans (oc))
  have x2wc:wc.cell? ⟨w.heap.size,2,none⟩=some (.int .i64 0):=((hcwc _ 2 (oC) hn0).trans (oc))
  have xf2wc:wc.frozen? ⟨w.heap.size,2,none⟩=false:=((hfwc _ 2 (oC) hn0).trans (oc))
  have x3wc:wc.cell? ⟨w.heap.size,3,none⟩=some (.int .i64 0):=((hcwc _ 3 (oC) hn0).trans (oc))
  have xf3wc:wc.frozen? ⟨w.heap.size,3,none⟩=false:=((hfwc _ 3 (oC) hn0).trans (oc))
  have x4wc:wc.cell? ⟨w.heap.size,4,none⟩=some (.int .i64 0):=((hcwc _ 4 (oC) hn0).trans (oc))
  have xf4wc:wc.frozen? ⟨w.heap.size,4,none⟩=false:=((hfwc _ 4 (oC) hn0).trans (oc))
  have yzwc:wa.heap.size<wc.heap.size:=(by(try simp at zwc);omega)
  have yywc:wa.heap.size≤wc.heap.size:=(by omega)
  have y0wc:wc.cell? ⟨wa.heap.size,0,none⟩=some (.int .i64 1):=((hcwc _ 0 (oC) hnwa).trans (oc))
  have yf0wc:wc.frozen? ⟨wa.heap.size,0,none⟩=false:=((hfwc _ 0 (oC) hnwa).trans (oc))
  have y1wc:wc.cell? ⟨wa.heap.size,1,none⟩=some (.int .i64 t):=((hcwc _ 1 (oC) hnwa).trans (oc))
  have yf1wc:wc.frozen? ⟨wa.heap.size,1,none⟩=false:=((hfwc _ 1 (oC) hnwa).trans (oc))
  have y2wc:wc.cell? ⟨wa.heap.size,2,none⟩=some (.int .i64 k):=((hcwc _ 2 (oC) hnwa).trans (oc))
  have yf2wc:wc.frozen? ⟨wa.heap.size,2,none⟩=false:=((hfwc _ 2 (oC) hnwa).trans (oc))
  have y3wc:wc.cell? ⟨wa.heap.size,3,none⟩=some (.int .i64 v):=((hcwc _ 3 (oC) hnwa).trans (oc))
  have yf3wc:wc.frozen? ⟨wa.heap.size,3,none⟩=false:=((hfwc _ 3 (oC) hnwa).trans (oc))
  have y4wc:wc.cell? ⟨wa.heap.size,4,none⟩=some (.int .i64 0):=((hcwc _ 4 (oC) hnwa).trans (oc))
  have yf4wc:wc.frozen? ⟨wa.heap.size,4,none⟩=false:=((hfwc _ 4 (oC) hnwa).trans (oc))
  have hn2wc:wc.heap.size+1≠R:=(by omega)
  obtain⟨m,hm,hm',hm'',bm1,bm2⟩:=el3w u bu1 bu2
  go_wp2_with fail
  clear hcwc hfwc
  (with_reducible refine(aI R a len cap (p+6) n _ (by omega) (by omega) ((ab rwc).kpS hRwc (nZ))).mono ?_)
  rintro e wf ⟨z,rfl,bz1,bz2,kwf,qwf⟩
  have rwf:=ae (qwf (by omega))
  clear qwf
  have zwf:=kwf.low.size
  have hRwf:R<wf.heap.size:=(by have h9:=kwf.low.size;(try simp at h9);omega)
  have hnwf:wf.heap.size≠R:=(by omega)
  have hcwf:=(fun b o hb hn=>kwf.cell (b:=b) (o:=o) hb hn)
  have hfwf:=(fun b o hb hn=>kwf.frozen (b:=b) (o:=o) hb hn)
  have xzwf:w.heap.size<wf.heap.size:=(by(try simp at zwf);omega)
  have xywf:w.heap.size≤wf.heap.size:=(by omega)
  have x0wf:wf.cell? ⟨w.heap.size,0,none⟩=some (.int .i64 0):=((hcwf _ 0 (oC) hn0).trans (oc))
  have xf0wf:wf.frozen? ⟨w.heap.size,0,none⟩=false:=((hfwf _ 0 (oC) hn0).trans (oc))
  have x1wf:wf.cell? ⟨w.heap.size,1,none⟩=some (.int .i64 0):=((hcwf _ 1 (oC) hn0).trans (oc))
  have xf1wf:wf.frozen? ⟨w.heap.size,1,none⟩=false:=((hfwf _ 1 (oC) hn0).trans (oc))
  have x2wf:wf.cell? ⟨w.heap.size,2,none⟩=some (.int .i64 0):=((hcwf _ 2 (oC) hn0).trans (oc))
  have xf2wf:wf.frozen? ⟨w.heap.size,2,none⟩=false:=((hfwf _ 2 (oC) hn0).trans (oc))
  have x3wf:wf.cell? ⟨w.heap.size,3,none⟩=some (.int .i64 0):=((hcwf _ 3 (oC) hn0).trans (oc))
  have xf3wf:wf.frozen? ⟨w.heap.size,3,none⟩=false:=((hfwf _ 3 (oC) hn0).trans (oc))
  have x4wf:wf.cell? ⟨w.heap.size,4,none⟩=some (.int .i64 0):=((hcwf _ 4 (oC) hn0).trans (oc))
  have xf4wf:wf.frozen? ⟨w.heap.size,4,none⟩=false:=((hfwf _ 4 (oC) hn0).trans (oc))
  have yzwf:wa.heap.size<wf.heap.size:=(by(try simp at zwf);omega)
  have yywf:wa.heap.size≤wf.heap.size:=(by omega)
  have y0wf:wf.cell? ⟨wa.heap.size,0,none⟩=some (.int .i64 3):=((hcwf _ 0 (oC) hnwa).trans (oc))
  have yf0wf:wf.frozen? ⟨wa.heap.size,0,none⟩=false:=((hfwf _ 0 (oC) hnwa).trans (oc))
  have y1wf:wf.cell? ⟨wa.heap.size,1,none⟩=some (.int .i64 0):=((hcwf _ 1 (oC) hnwa).trans (oc))
  have yf1wf:wf.frozen? ⟨wa.heap.size,1,none⟩=false:=((hfwf _ 1 (oC) hnwa).trans (oc))
  have y2wf:wf.cell? ⟨wa.heap.size,2,none⟩=some (.int .i64 0):=((hcwf _ 2 (oC) hnwa).trans (oc))
  have yf2wf:wf.frozen? ⟨wa.heap.size,2,none⟩=false:=((hfwf _ 2 (oC) hnwa).trans (oc))
  have y3wf:wf.cell? ⟨wa.heap.size,3,none⟩=some (.int .i64 0):=((hcwf _ 3 (oC) hnwa).trans (oc))
  have yf3wf:wf.frozen? ⟨wa.heap.size,3,none⟩=false:=((hfwf _ 3 (oC) hnwa).trans (oc))
  have y4wf:wf.cell? ⟨wa.heap.size,4,none⟩=some (.int .i64 m):=((hcwf _ 4 (oC) hnwa).trans (oc))
  have yf4wf:wf.frozen? ⟨wa.heap.size,4,none⟩=false:=((hfwf _ 4 (oC) hnwa).trans (oc))
  have hn2wf:wf.heap.size+1≠R:=(by omega)
  clear hcwf hfwf x0wb xf0wb x1wb xf1wb x2wb xf2wb x3wb xf3wb x4wb xf4wb y0wb yf0wb y1wb yf1wb y2wb yf2wb y3wb yf3wb y4wb yf4wb x0wc xf0wc x1wc xf1wc x2wc xf2wc x3wc xf3wc x4wc xf4wc y0wc yf0wc y1wc yf1wc y2wc yf2wc y3wc yf3wc y4wc yf4wc
  by_cases hz:0<z
  ·go_wp2
   refine bodyPost_ret (v:= .agg #[.int .i64 3,.int .i64 0,.int .i64 0,.int .i64 0,.int .i64 m]) (oz) rfl ⟨3,0,0,0,m,rfl,(nU),((p+6)+1),by omega,(ab rwf).up (nZ)⟩
  ·go_wp2_with fail
   (with_reducible refine(aI R a len cap ((p+6)+1) 7 _ (by omega) (by omega) ((ab rwf).kpS hRwf (nZ))).mono ?_)
   rintro e wg ⟨c,rfl,bc1,bc2,kwg,qwg⟩
   have rwg:=ae (qwg (by omega))
   clear qwg
   have zwg:=kwg.low.size
   have hRwg:R<wg.heap.size:=(by have h9:=kwg.low.size;(try simp at h9);omega)
   have hnwg:wg.heap.size≠R:=(by omega)
   have hcwg:=(fun b o hb hn=>kwg.cell (b:=b) (o:=o) hb hn)
   have hfwg:=(fun b o hb hn=>kwg.frozen (b:=b) (o:=o) hb hn)
   have xzwg:w.heap.size<wg.heap.size:=(by(try simp at zwg);omega)
   have xywg:w.heap.size≤wg.heap.size:=(by omega)
   have x0wg:wg.cell? ⟨w.heap.size,0,none⟩=some (.int .i64 0):=((hcwg _ 0 (oC) hn0).trans (oc))
   have xf0wg:wg.frozen? ⟨w.heap.size,0,none⟩=false:=((hfwg _ 0 (oC) hn0).trans (oc))
   have x1wg:wg.cell? ⟨w.heap.size,1,none⟩=some (.int .i64 0):=((hcwg _ 1 (oC) hn0).trans (oc))
   have xf1wg:wg.frozen? ⟨w.heap.size,1,none⟩=false:=((hfwg _ 1 (oC) hn0).trans (oc))
   have x2wg:wg.cell? ⟨w.heap.size,2,none⟩=some (.int .i64 0):=((hcwg _ 2 (oC) hn0).trans (oc))
   have xf2wg:wg.frozen? ⟨w.heap.size,2,none⟩=false:=((hfwg _ 2 (oC) hn0).trans (oc))
   have x3wg:wg.cell? ⟨w.heap.size,3,none⟩=some (.int .i64 0):=((hcwg _ 3 (oC) hn0).trans (oc))
   have xf3wg:wg.frozen? ⟨w.heap.size,3,none⟩=false:=((hfwg _ 3 (oC) hn0).trans (oc))
   have x4wg:wg.cell? ⟨w.heap.size,4,none⟩=some (.int .i64 0):=((hcwg _ 4 (oC) hn0).trans (oc))
   have xf4wg:wg.frozen? ⟨w.heap.size,4,none⟩=false:=((hfwg _ 4 (oC) hn0).trans (oc))
   have yzwg:wa.heap.size<wg.heap.size:=(by(try simp at zwg);omega)
   have yywg:wa.heap.size≤wg.heap.size:=(by omega)
   have y0wg:wg.cell? ⟨wa.heap.size,0,none⟩=some (.int .i64 3):=((hcwg _ 0 (oC) hnwa).trans (oc))
   have yf0wg:wg.frozen? ⟨wa.heap.size,0,none⟩=false:=((hfwg _ 0 (oC) hnwa).trans (oc))
   have y1wg:wg.cell? ⟨wa.heap.size,1,none⟩=some (.int .i64 0):=((hcwg _ 1 (oC) hnwa).trans (oc))
   have yf1wg:wg.frozen? ⟨wa.heap.size,1,none⟩=false:=((hfwg _ 1 (oC) hnwa).trans (oc))
   have y2wg:wg.cell? ⟨wa.heap.size,2,none⟩=some (.int .i64 0):=((hcwg _ 2 (oC) hnwa).trans (oc))
   have yf2wg:wg.frozen? ⟨wa.heap.size,2,none⟩=false:=((hfwg _ 2 (oC) hnwa).trans (oc))
   have y3wg:wg.cell? ⟨wa.heap.size,3,none⟩=some (.int .i64 0):=((hcwg _ 3 (oC) hnwa).trans (oc))
   have yf3wg:wg.frozen? ⟨wa.heap.size,3,none⟩=false:=((hfwg _ 3 (oC) hnwa).trans (oc))
   have y4wg:wg.cell? ⟨wa.heap.size,4,none⟩=some (.int .i64 m):=((hcwg _ 4 (oC) hnwa).trans (oc))
   have yf4wg:wg.frozen? ⟨wa.heap.size,4,none⟩=false:=((hfwg _ 4 (oC) hnwa).trans (oc))
   have hn2wg:wg.heap.size+1≠R:=(by omega)
   obtain⟨d,hd,hd',hd'',bd1,bd2⟩:=el7 c bc1 bc2
   go_wp2_with fail
   clear hcwg hfwg
   (with_reducible refine(aI R a len cap ((p+6)+2) 5 _ (by omega) (by omega) ((ab rwg).kpS hRwg (nZ))).mono ?_)
   rintro e wh ⟨f,rfl,bf1,bf2,kwh,qwh⟩
   have rwh:=ae (qwh (by omega))
   clear qwh
   have zwh:=kwh.low.size
   have hRwh:R<wh.heap.size:=(by have h9:=kwh.low.size;(try simp at h9);omega)
   have hnwh:wh.heap.size≠R:=(by omega)
   have hcwh:=(fun b o hb hn=>kwh.cell (b:=b) (o:=o) hb hn)
   have hfwh:=(fun b o hb hn=>kwh.frozen (b:=b) (o:=o) hb hn)
   have xzwh:w.heap.size<wh.heap.size:=(by(try simp at zwh);omega)
   have xywh:w.heap.size≤wh.heap.size:=(by omega)
   have x0wh:wh.cell? ⟨w.heap.size,0,none⟩=some (.int .i64 0):=((hcwh _ 0 (oC) hn0).trans (oc))
   have xf0wh:wh.frozen? ⟨w.heap.size,0,none⟩=false:=((hfwh _ 0 (oC) hn0).trans (oc))
   have x1wh:wh.cell? ⟨w.heap.size,1,none⟩=some (.int .i64 0):=((hcwh _ 1 (oC) hn0).trans (oc))
   have xf1wh:wh.frozen? ⟨w.heap.size,1,none⟩=false:=((hfwh _ 1 (oC) hn0).trans (oc))
   have x2wh:wh.cell? ⟨w.heap.size,2,none⟩=some (.int .i64 0):=((hcwh _ 2 (oC) hn0).trans (oc))
   have xf2wh:wh.frozen? ⟨w.heap.size,2,none⟩=false:=((hfwh _ 2 (oC) hn0).trans (oc))
   have x3wh:wh.cell? ⟨w.heap.size,3,none⟩=some (.int .i64 0):=((hcwh _ 3 (oC) hn0).trans (oc))
   have xf3wh:wh.frozen? ⟨w.heap.size,3,none⟩=false:=((hfwh _ 3 (oC) hn0).trans (oc))
   have x4wh:wh.cell? ⟨w.heap.size,4,none⟩=some (.int .i64 0):=((hcwh _ 4 (oC) hn0).trans (oc))
   have xf4wh:wh.frozen? ⟨w.heap.size,4,none⟩=false:=((hfwh _ 4 (oC) hn0).trans (oc))
   have yzwh:wa.heap.size<wh.heap.size:=(by(try simp at zwh);omega)
   have yywh:wa.heap.size≤wh.heap.size:=(by omega)
   have y0wh:wh.cell? ⟨wa.heap.size,0,none⟩=some (.int .i64 3):=((hcwh _ 0 (oC) hnwa).trans (oc))
   have yf0wh:wh.frozen? ⟨wa.heap.size,0,none⟩=false:=((hfwh _ 0 (oC) hnwa).trans (oc))
   have y1wh:wh.cell? ⟨wa.heap.size,1,none⟩=some (.int .i64 0):=((hcwh _ 1 (oC) hnwa).trans (oc))
   have yf1wh:wh.frozen? ⟨wa.heap.size,1,none⟩=false:=((hfwh _ 1 (oC) hnwa).trans (oc))
   have y2wh:wh.cell? ⟨wa.heap.size,2,none⟩=some (.int .i64 0):=((hcwh _ 2 (oC) hnwa).trans (oc))
   have yf2wh:wh.frozen? ⟨wa.heap.size,2,none⟩=false:=((hfwh _ 2 (oC) hnwa).trans (oc))
   have y3wh:wh.cell? ⟨wa.heap.size,3,none⟩=some (.int .i64 0):=((hcwh _ 3 (oC) hnwa).trans (oc))
   have yf3wh:wh.frozen? ⟨wa.heap.size,3,none⟩=false:=((hfwh _ 3 (oC) hnwa).trans (oc))
   have y4wh:wh.cell? ⟨wa.heap.size,4,none⟩=some (.int .i64 m):=((hcwh _ 4 (oC) hnwa).trans (oc))
   have yf4wh:wh.frozen? ⟨wa.heap.size,4,none⟩=false:=((hfwh _ 4 (oC) hnwa).trans (oc))
   have hn2wh:wh.heap.size+1≠R:=(by omega)
   clear hcwh hfwh x0wf xf0wf x1wf xf1wf x2wf xf2wf x3wf xf3wf x4wf xf4wf y0wf yf0wf y1wf yf1wf y2wf yf2wf y3wf yf3wf y4wf yf4wf x0wg xf0wg x1wg xf1wg x2wg xf2wg x3wg xf3wg x4wg xf4wg y0wg yf0wg y1wg yf1wg y2wg yf2wg y3wg yf3wg y4wg yf4wg
   have hff:f=0∨f=1∨f=2∨f=3∨f=4:=by omega
   rcases hff with rfl|rfl|rfl|rfl|rfl
   ·go_wp2
    refine bodyPost_ret (v:= .agg #[.int .i64 d,.int .i64 0,.int .i64 0,.int .i64 0,.int .i64 m]) (oz) rfl ⟨d,0,0,0,m,rfl,(nU),((p+6)+3),by omega,(ab rwh).up (nZ)⟩
   ·go_wp2
    refine bodyPost_ret (v:= .agg #[.int .i64 3,.int .i64 d,.int .i64 0,.int .i64 0,.int .i64 m]) (oz) rfl ⟨3,d,0,0,m,rfl,(nU),((p+6)+3),by omega,(ab rwh).up (nZ)⟩
   ·go_wp2
    refine bodyPost_ret (v:= .agg #[.int .i64 3,.int .i64 0,.int .i64 d,.int .i64 0,.int .i64 m]) (oz) rfl ⟨3,0,d,0,m,rfl,(nU),((p+6)+3),by omega,(ab rwh).up (nZ)⟩
   ·go_wp2
    refine bodyPost_ret (v:= .agg #[.int .i64 3,.int .i64 0,.int .i64 0,.int .i64 d,.int .i64 m]) (oz) rfl ⟨3,0,0,d,m,rfl,(nU),((p+6)+3),by omega,(ab rwh).up (nZ)⟩
   ·go_wp2
    refine bodyPost_ret (v:= .agg #[.int .i64 3,.int .i64 0,.int .i64 0,.int .i64 0,.int .i64 d]) (oz) rfl ⟨3,0,0,0,d,rfl,(nU),((p+6)+3),by omega,(ab rwh).up (nZ)⟩
 ·have hy0':(y==0)=false:=beq_eq_false_iff_ne.2 hy0
  have hy1':(y==1)=false:=beq_eq_false_iff_ne.2 hy1
  go_wp2_with fail
  (with_reducible refine(aI R a len cap (p+5) n _ (by omega) (by omega) ((ab rwb).kpS hRwb (nZ))).mono ?_)
  rintro e wf ⟨z,rfl,bz1,bz2,kwf,qwf⟩
  have rwf:=ae (qwf (by omega))
  clear qwf
  have zwf:=kwf.low.size
  have hRwf:R<wf.heap.size:=(by have h9:=kwf.low.size;(try simp at h9);omega)
  have hnwf:wf.heap.size≠R:=(by omega)
  have hcwf:=(fun b o hb hn=>kwf.cell (b:=b) (o:=o) hb hn)
  have hfwf:=(fun b o hb hn=>kwf.frozen (b:=b) (o:=o) hb hn)
  have xzwf:w.heap.size<wf.heap.size:=(by(try simp at zwf);omega)
  have xywf:w.heap.size≤wf.heap.size:=(by omega)
  have x0wf:wf.cell? ⟨w.heap.size,0,none⟩=some (.int .i64 0):=((hcwf _ 0 (oC) hn0).trans (oc))
  have xf0wf:wf.frozen? ⟨w.heap.size,0,none⟩=false:=((hfwf _ 0 (oC) hn0).trans (oc))
  have x1wf:wf.cell? ⟨w.heap.size,1,none⟩=some (.int .i64 0):=((hcwf _ 1 (oC) hn0).trans (oc))
  have xf1wf:wf.frozen? ⟨w.heap.size,1,none⟩=false:=((hfwf _ 1 (oC) hn0).trans (oc))
  have x2wf:wf.cell? ⟨w.heap.size,2,none⟩=some (.int .i64 0):=((hcwf _ 2 (oC) hn0).trans (oc))
  have xf2wf:wf.frozen? ⟨w.heap.size,2,none⟩=false:=((hfwf _ 2 (oC) hn0).trans (oc))
  have x3wf:wf.cell? ⟨w.heap.size,3,none⟩=some (.int .i64 0):=((hcwf _ 3 (oC) hn0).trans (oc))
  have xf3wf:wf.frozen? ⟨w.heap.size,3,none⟩=false:=((hfwf _ 3 (oC) hn0).trans (oc))
  have x4wf:wf.cell? ⟨w.heap.size,4,none⟩=some (.int .i64 0):=((hcwf _ 4 (oC) hn0).trans (oc))
  have xf4wf:wf.frozen? ⟨w.heap.size,4,none⟩=false:=((hfwf _ 4 (oC) hn0).trans (oc))
  have yzwf:wa.heap.size<wf.heap.size:=(by(try simp at zwf);omega)
  have yywf:wa.heap.size≤wf.heap.size:=(by omega)
  have y0wf:wf.cell? ⟨wa.heap.size,0,none⟩=some (.int .i64 1):=((hcwf _ 0 (oC) hnwa).trans (oc))
  have yf0wf:wf.frozen? ⟨wa.heap.size,0,none⟩=false:=((hfwf _ 0 (oC) hnwa).trans (oc))
  have y1wf:wf.cell? ⟨wa.heap.size,1,none⟩=some (.int .i64 t):=((hcwf _ 1 (oC) hnwa).trans (oc))
  have yf1wf:wf.frozen? ⟨wa.heap.size,1,none⟩=false:=((hfwf _ 1 (oC) hnwa).trans (oc))
  have y2wf:wf.cell? ⟨wa.heap.size,2,none⟩=some (.int .i64 k):=((hcwf _ 2 (oC) hnwa).trans (oc))
  have yf2wf:wf.frozen? ⟨wa.heap.size,2,none⟩=false:=((hfwf _ 2 (oC) hnwa).trans (oc))
  have y3wf:wf.cell? ⟨wa.heap.size,3,none⟩=some (.int .i64 v):=((hcwf _ 3 (oC) hnwa).trans (oc))
  have yf3wf:wf.frozen? ⟨wa.heap.size,3,none⟩=false:=((hfwf _ 3 (oC) hnwa).trans (oc))
  have y4wf:wf.cell? ⟨wa.heap.size,4,none⟩=some (.int .i64 0):=((hcwf _ 4 (oC) hnwa).trans (oc))
  have yf4wf:wf.frozen? ⟨wa.heap.size,4,none⟩=false:=((hfwf _ 4 (oC) hnwa).trans (oc))
  have hn2wf:wf.heap.size+1≠R:=(by omega)
  clear hcwf hfwf x0wb xf0wb x1wb xf1wb x2wb xf2wb x3wb xf3wb x4wb xf4wb y0wb yf0wb y1wb yf1wb y2wb yf2wb y3wb yf3wb y4wb yf4wb
  by_cases hz:0<z
  ·go_wp2
   refine bodyPost_ret (v:= .agg #[.int .i64 1,.int .i64 t,.int .i64 k,.int .i64 v,.int .i64 0]) (oz) rfl ⟨1,t,k,v,0,rfl,(nU),((p+5)+1),by omega,(ab rwf).up (nZ)⟩
  ·go_wp2_with fail
   (with_reducible refine(aI R a len cap ((p+5)+1) 7 _ (by omega) (by omega) ((ab rwf).kpS hRwf (nZ))).mono ?_)
   rintro e wg ⟨c,rfl,bc1,bc2,kwg,qwg⟩
   have rwg:=ae (qwg (by omega))
   clear qwg
   have zwg:=kwg.low.size
   have hRwg:R<wg.heap.size:=(by have h9:=kwg.low.size;(try simp at h9);omega)
   have hnwg:wg.heap.size≠R:=(by omega)
   have hcwg:=(fun b o hb hn=>kwg.cell (b:=b) (o:=o) hb hn)
   have hfwg:=(fun b o hb hn=>kwg.frozen (b:=b) (o:=o) hb hn)
   have xzwg:w.heap.size<wg.heap.size:=(by(try simp at zwg);omega)
   have xywg:w.heap.size≤wg.heap.size:=(by omega)
   have x0wg:wg.cell? ⟨w.heap.size,0,none⟩=some (.int .i64 0):=((hcwg _ 0 (oC) hn0).trans (oc))
   have xf0wg:wg.frozen? ⟨w.heap.size,0,none⟩=false:=((hfwg _ 0 (oC) hn0).trans (oc))
   have x1wg:wg.cell? ⟨w.heap.size,1,none⟩=some (.int .i64 0):=((hcwg _ 1 (oC) hn0).trans (oc))
   have xf1wg:wg.frozen? ⟨w.heap.size,1,none⟩=false:=((hfwg _ 1 (oC) hn0).trans (oc))
   have x2wg:wg.cell? ⟨w.heap.size,2,none⟩=some (.int .i64 0):=((hcwg _ 2 (oC) hn0).trans (oc))
   have xf2wg:wg.frozen? ⟨w.heap.size,2,none⟩=false:=((hfwg _ 2 (oC) hn0).trans (oc))
   have x3wg:wg.cell? ⟨w.heap.size,3,none⟩=some (.int .i64 0):=((hcwg _ 3 (oC) hn0).trans (oc))
   have xf3wg:wg.frozen? ⟨w.heap.size,3,none⟩=false:=((hfwg _ 3 (oC) hn0).trans (oc))
   have x4wg:wg.cell? ⟨w.heap.size,4,none⟩=some (.int .i64 0):=((hcwg _ 4 (oC) hn0).trans (oc))
   have xf4wg:wg.frozen? ⟨w.heap.size,4,none⟩=false:=((hfwg _ 4 (oC) hn0).trans (oc))
   have yzwg:wa.heap.size<wg.heap.size:=(by(try simp at zwg);omega)
   have yywg:wa.heap.size≤wg.heap.size:=(by omega)
   have y0wg:wg.cell? ⟨wa.heap.size,0,none⟩=some (.int .i64 1):=((hcwg _ 0 (oC) hnwa).trans (oc))
   have yf0wg:wg.frozen? ⟨wa.heap.size,0,none⟩=false:=((hfwg _ 0 (oC) hnwa).trans (oc))
   have y1wg:wg.cell? ⟨wa.heap.size,1,none⟩=some (.int .i64 t):=((hcwg _ 1 (oC) hnwa).trans (oc))
   have yf1wg:wg.frozen? ⟨wa.heap.size,1,none⟩=false:=((hfwg _ 1 (oC) hnwa).trans (oc))
   have y2wg:wg.cell? ⟨wa.heap.size,2,none⟩=some (.int .i64 k):=((hcwg _ 2 (oC) hnwa).trans (oc))
   have yf2wg:wg.frozen? ⟨wa.heap.size,2,none⟩=false:=((hfwg _ 2 (oC) hnwa).trans (oc))
   have y3wg:wg.cell? ⟨wa.heap.size,3,none⟩=some (.int .i64 v):=((hcwg _ 3 (oC) hnwa).trans (oc))
   have yf3wg:wg.frozen? ⟨wa.heap.size,3,none⟩=false:=((hfwg _ 3 (oC) hnwa).trans (oc))
   have y4wg:wg.cell? ⟨wa.heap.size,4,none⟩=some (.int .i64 0):=((hcwg _ 4 (oC) hnwa).trans (oc))
   have yf4wg:wg.frozen? ⟨wa.heap.size,4,none⟩=false:=((hfwg _ 4 (oC) hnwa).trans (oc))
   have hn2wg:wg.heap.size+1≠R:=(by omega)
   obtain⟨d,hd,hd',hd'',bd1,bd2⟩:=el7 c bc1 bc2
   go_wp2_with fail
   clear hcwg hfwg
   (with_reducible refine(aI R a len cap ((p+5)+2) 5 _ (by omega) (by omega) ((ab rwg).kpS hRwg (nZ))).mono ?_)
   rintro e wh ⟨f,rfl,bf1,bf2,kwh,qwh⟩
   have rwh:=ae (qwh (by omega))
   clear qwh
   have zwh:=kwh.low.size
   have hRwh:R<wh.heap.size:=(by have h9:=kwh.low.size;(try simp at h9);omega)
   have hnwh:wh.heap.size≠R:=(by omega)
   have hcwh:=(fun b o hb hn=>kwh.cell (b:=b) (o:=o) hb hn)
   have hfwh:=(fun b o hb hn=>kwh.frozen (b:=b) (o:=o) hb hn)
   have xzwh:w.heap.size<wh.heap.size:=(by(try simp at zwh);omega)
   have xywh:w.heap.size≤wh.heap.size:=(by omega)
   have x0wh:wh.cell? ⟨w.heap.size,0,none⟩=some (.int .i64 0):=((hcwh _ 0 (oC) hn0).trans (oc))
   have xf0wh:wh.frozen? ⟨w.heap.size,0,none⟩=false:=((hfwh _ 0 (oC) hn0).trans (oc))
   have x1wh:wh.cell? ⟨w.heap.size,1,none⟩=some (.int .i64 0):=((hcwh _ 1 (oC) hn0).trans (oc))
   have xf1wh:wh.frozen? ⟨w.heap.size,1,none⟩=false:=((hfwh _ 1 (oC) hn0).trans (oc))
   have x2wh:wh.cell? ⟨w.heap.size,2,none⟩=some (.int .i64 0):=((hcwh _ 2 (oC) hn0).trans (oc))
   have xf2wh:wh.frozen? ⟨w.heap.size,2,none⟩=false:=((hfwh _ 2 (oC) hn0).trans (oc))
   have x3wh:wh.cell? ⟨w.heap.size,3,none⟩=some (.int .i64 0):=((hcwh _ 3 (oC) hn0).trans (oc))
   have xf3wh:wh.frozen? ⟨w.heap.size,3,none⟩=false:=((hfwh _ 3 (oC) hn0).trans (oc))
   have x4wh:wh.cell? ⟨w.heap.size,4,none⟩=some (.int .i64 0):=((hcwh _ 4 (oC) hn0).trans (oc))
   have xf4wh:wh.frozen? ⟨w.heap.size,4,none⟩=false:=((hfwh _ 4 (oC) hn0).trans (oc))
   have yzwh:wa.heap.size<wh.heap.size:=(by(try simp at zwh);omega)
   have yywh:wa.heap.size≤wh.heap.size:=(by omega)
   have y0wh:wh.cell? ⟨wa.heap.size,0,none⟩=some (.int .i64 1):=((hcwh _ 0 (oC) hnwa).trans (oc))
   have yf0wh:wh.frozen? ⟨wa.heap.size,0,none⟩=false:=((hfwh _ 0 (oC) hnwa).trans (oc))
   have y1wh:wh.cell? ⟨wa.heap.size,1,none⟩=some (.int .i64 t):=((hcwh _ 1 (oC) hnwa).trans (oc))
   have yf1wh:wh.frozen? ⟨wa.heap.size,1,none⟩=false:=((hfwh _ 1 (oC) hnwa).trans (oc))
   have y2wh:wh.cell? ⟨wa.heap.size,2,none⟩=some (.int .i64 k):=((hcwh _ 2 (oC) hnwa).trans (oc))
   have yf2wh:wh.frozen? ⟨wa.heap.size,2,none⟩=false:=((hfwh _ 2 (oC) hnwa).trans (oc))
   have y3wh:wh.cell? ⟨wa.heap.size,3,none⟩=some (.int .i64 v):=((hcwh _ 3 (oC) hnwa).trans (oc))
   have yf3wh:wh.frozen? ⟨wa.heap.size,3,none⟩=false:=((hfwh _ 3 (oC) hnwa).trans (oc))
   have y4wh:wh.cell? ⟨wa.heap.size,4,none⟩=some (.int .i64 0):=((hcwh _ 4 (oC) hnwa).trans (oc))
   have yf4wh:wh.frozen? ⟨wa.heap.size,4,none⟩=false:=((hfwh _ 4 (oC) hnwa).trans (oc))
   have hn2wh:wh.heap.size+1≠R:=(by omega)
   clear hcwh hfwh x0wf xf0wf x1wf xf1wf x2wf xf2wf x3wf xf3wf x4wf xf4wf y0wf yf0wf y1wf yf1wf y2wf yf2wf y3wf yf3wf y4wf yf4wf x0wg xf0wg x1wg xf1wg x2wg xf2wg x3wg xf3wg x4wg xf4wg y0wg yf0wg y1wg yf1wg y2wg yf2wg y3wg yf3wg y4wg yf4wg
   have hff:f=0∨f=1∨f=2∨f=3∨f=4:=by omega
   rcases hff with rfl|rfl|rfl|rfl|rfl
   ·go_wp2
    refine bodyPost_ret (v:= .agg #[.int .i64 d,.int .i64 t,.int .i64 k,.int .i64 v,.int .i64 0]) (oz) rfl ⟨d,t,k,v,0,rfl,(nU),((p+5)+3),by omega,(ab rwh).up (nZ)⟩
   ·go_wp2
    refine bodyPost_ret (v:= .agg #[.int .i64 1,.int .i64 d,.int .i64 k,.int .i64 v,.int .i64 0]) (oz) rfl ⟨1,d,k,v,0,rfl,(nU),((p+5)+3),by omega,(ab rwh).up (nZ)⟩
   ·go_wp2
    refine bodyPost_ret (v:= .agg #[.int .i64 1,.int .i64 t,.int .i64 d,.int .i64 v,.int .i64 0]) (oz) rfl ⟨1,t,d,v,0,rfl,(nU),((p+5)+3),by omega,(ab rwh).up (nZ)⟩
   ·go_wp2
    refine bodyPost_ret (v:= .agg #[.int .i64 1,.int .i64 t,.int .i64 k,.int .i64 d,.int .i64 0]) (oz) rfl ⟨1,t,k,d,0,rfl,(nU),((p+5)+3),by omega,(ab rwh).up (nZ)⟩
   ·go_wp2
    refine bodyPost_ret (v:= .agg #[.int .i64 1,.int .i64 t,.int .i64 k,.int .i64 v,.int .i64 d]) (oz) rfl ⟨1,t,k,v,d,rfl,(nU),((p+5)+3),by omega,(ab rwh).up (nZ)⟩
end Go.Proofs.YtdmhihcipkhecaaGreat
