/- Laid together: what the claim needs of the texts that were built one by one. -/
import Derived.Test.YtdmhihcipkhecaaGreatT4
import Derived.Test.YtdmhihcipkhecaaGreatT0
import Derived.Test.YtdmhihcipkhecaaGreatT5
import Derived.Deep.RegionHeld3
import Derived.Lib.SmallJoins
set_option linter.unusedVariables false
namespace Go.Proofs.YtdmhihcipkhecaaGreat
open Go.ChangeShapes Go.WideShapes Go.ChangeAt Go.RowKit
set_option maxHeartbeats 1000000 in
theorem lN(n s l m n' s' l' m':Int)(w:World):Calls Tryz.prog 96 #[.agg #[.int .i64 n,.int .i64 s,.int .i64 l,.int .i64 m],.agg #[.int .i64 n',.int .i64 s',.int .i64 l',.int .i64 m']] w fun e w'=>e= .returned (.agg #[.int .i64 (bo n n' n n' (wrap64 (n+n'))),.int .i64 (bo n n' s s' (wrap64 (s+s'))),.int .i64 (bo n n' l l' (ft l l')),.int .i64 (bo n n' m m' (fp m m'))])∧Below w.heap.size w w':=by
 go_enter Tryz.func96,Tryz.ntmps96
 go_wp2
 refine wp_loop_rounds 2 ?_
 rw[rounds_succ]
 go_wp2_with (first
  |(go_at_call 105;refine(both_any _ _ _ _ _ _ _ _ _).mono ?_;rintro e w' ⟨rfl,hb⟩;obtain⟨hc,hf,hs⟩:=az hb;(try have hz0:=zA hb w.heap.size);(try have hz1:=zA hb (w.heap.size+1));(try have hz2:=zA hb (w.heap.size+2));(try have hz3:=zA hb (w.heap.size+3));(try have hz4:=zA hb (w.heap.size+4));(try have hz5:=zA hb (w.heap.size+5));(try have hz6:=zA hb (w.heap.size+6))))
 rw[rounds_succ]
 go_wp2
 refine bodyPost_ret (v:= .agg #[.int .i64 (bo n n' n n' (wrap64 (n+n'))),.int .i64 (bo n n' s s' (wrap64 (s+s'))),.int .i64 (bo n n' l l' (ft l l')),.int .i64 (bo n n' m m' (fp m m'))]) (by simp[results,Tryz.results104,go_sem,hc]) rfl ?_
 go_wp2
 refine bodyPost_ret (v:= .agg #[.int .i64 (bo n n' n n' (wrap64 (n+n'))),.int .i64 (bo n n' s s' (wrap64 (s+s'))),.int .i64 (bo n n' l l' (ft l l')),.int .i64 (bo n n' m m' (fp m m'))]) (by simp[results,Tryz.results96,go_sem,hc]) rfl ⟨rfl,?_⟩
 exact(bC)
set_option maxHeartbeats 1000000 in
theorem impladd_any(n s l m v:Int)(w:World):Calls Tryz.prog 95 #[.agg #[.int .i64 n,.int .i64 s,.int .i64 l,.int .i64 m],.int .i64 v] w fun e w'=>e= .returned (.agg #[.int .i64 (bo n 1 n 1 (wrap64 (n+1))),.int .i64 (bo n 1 s v (wrap64 (s+v))),.int .i64 (bo n 1 l v (ft l v)),.int .i64 (bo n 1 m v (fp m v))])∧Below w.heap.size w w':=by
 go_enter Tryz.func95,Tryz.ntmps95
 go_wp2
 refine wp_loop_rounds 2 ?_
 rw[rounds_succ]
 go_wp2_with (first
  |(go_at_call 103;refine(with_any _ _ _ _ _ _).mono ?_;rintro e w' ⟨rfl,hb⟩;obtain⟨hc,hf,hs⟩:=az hb;(try have hz0:=zA hb w.heap.size);(try have hz1:=zA hb (w.heap.size+1));(try have hz2:=zA hb (w.heap.size+2));(try have hz3:=zA hb (w.heap.size+3));(try have hz4:=zA hb (w.heap.size+4));(try have hz5:=zA hb (w.heap.size+5));(try have hz6:=zA hb (w.heap.size+6))))
 rw[rounds_succ]
 go_wp2
 refine bodyPost_ret (v:= .agg #[.int .i64 (bo n 1 n 1 (wrap64 (n+1))),.int .i64 (bo n 1 s v (wrap64 (s+v))),.int .i64 (bo n 1 l v (ft l v)),.int .i64 (bo n 1 m v (fp m v))]) (by simp[results,Tryz.results102,go_sem,hc]) rfl ?_
 go_wp2
 refine bodyPost_ret (v:= .agg #[.int .i64 (bo n 1 n 1 (wrap64 (n+1))),.int .i64 (bo n 1 s v (wrap64 (s+v))),.int .i64 (bo n 1 l v (ft l v)),.int .i64 (bo n 1 m v (fp m v))]) (by simp[results,Tryz.results95,go_sem,hc]) rfl ⟨rfl,?_⟩
 exact(bC)
end Go.Proofs.YtdmhihcipkhecaaGreat
namespace Go.Proofs.YtdmhihcipkhecaaGreat
open Go.ChangeShapes Go.WideShapes Go.ChangeAt Go.RowKit Go.Shelf Go.Maps
set_option linter.unusedSimpArgs false
theorem gM(n s l m v:Int)(w:World){g1 g2 g3 g4:Int}(h:Hid (dU (n,s,l,m) v=(g1,g2,g3,g4))):Calls Tryz.prog 95 #[.agg #[.int .i64 n,.int .i64 s,.int .i64 l,.int .i64 m],.int .i64 v] w fun e w'=>e= .returned (.agg #[.int .i64 g1,.int .i64 g2,.int .i64 g3,.int .i64 g4])∧Below w.heap.size w w':=by
 have h9:=ab h
 unfold dU at h9
 simp only[Prod.mk.injEq]at h9
 obtain⟨rfl,rfl,rfl,rfl⟩:=h9
 exact impladd_any n s l m v w
theorem implboth_is(n s l m n' s' l' m':Int)(w:World){g1 g2 g3 g4:Int}(h:Hid (eN (n,s,l,m) (n',s',l',m')=(g1,g2,g3,g4))):Calls Tryz.prog 96 #[.agg #[.int .i64 n,.int .i64 s,.int .i64 l,.int .i64 m],.agg #[.int .i64 n',.int .i64 s',.int .i64 l',.int .i64 m']] w fun e w'=>e= .returned (.agg #[.int .i64 g1,.int .i64 g2,.int .i64 g3,.int .i64 g4])∧Below w.heap.size w w':=by
 have h9:=ab h
 unfold eN at h9
 simp only[Prod.mk.injEq]at h9
 obtain⟨rfl,rfl,rfl,rfl⟩:=h9
 exact lN n s l m n' s' l' m' w
set_option maxRecDepth 100000 in
set_option maxHeartbeats 4000000 in
theorem add_any(g:Nat)(x:aC)(vv:Int)(w:World)(h:ew w g x):Calls Tryz.prog 81 #[.pointer (some ⟨g,0,none⟩),.int .i64 vv] w fun e w'=>e= .returned (.tuple #[])∧ew w' g (eO x vv)∧w.grownBy w' (some g):=by
 obtain⟨ky,st,en,an,asu,ale,amo,fn,fsu,fle,fmo,td,tm⟩:=x
 unfold ew at h
 dsimp only at h
 have hg:g<w.heap.size:=(Array.getElem?_eq_some_iff.1 h).1
 obtain⟨⟨g1,g2,g3,g4⟩,hg1⟩:∃r9,dU (an,asu,ale,amo) vv=r9:=⟨_,rfl⟩
 obtain⟨⟨f1,f2,f3,f4⟩,hf1⟩:∃r9,dU (fn,fsu,fle,fmo) vv=r9:=⟨_,rfl⟩
 have HK:Hid (eO ⟨ky,st,en,an,asu,ale,amo,fn,fsu,fle,fmo,td,tm⟩ vv=⟨ky,st,en,g1,g2,g3,g4,f1,f2,f3,f4,td,tm⟩):=ae (by unfold eO gl frA;dsimp only;rw[hg1,hf1])
 have HG:=ae hg1
 have HF:=ae hf1
 clear hg1 hf1
 go_enter Tryz.func81,Tryz.ntmps81
 go_wp2_with fail
 refine eh [16,19] (fun W=>W.heap[g]? =some (.cells #[.int .i64 ky,.int .i64 st,.int .i64 en,.int .i64 an,.int .i64 asu,.int .i64 ale,.int .i64 amo,.int .i64 fn,.int .i64 fsu,.int .i64 fle,.int .i64 fmo,.int .i64 td,.bool tm] 57 (0,0))) (oc) ?_ (fun hHeld=>?_)
 ·(try dsimp only);exact h
 refine aF (i:=0) (v:=?_) (nP) (oc) (oc) (oc) (oc) (nQ) (Or.inl ⟨by rfl,?_⟩) (fun _=>by assumption) ?_
 rotate_left
 ·(intro w9 hSw;(try dsimp only at hSw);go_simp<;>with_reducible rfl)
 try simp only[Act.put,tA,tZ,tS]
 refine aF (i:=1) (v:=?_) (nP) (oc) (oc) (oc) (oc) (nQ) (Or.inl ⟨by rfl,?_⟩) (fun _=>by assumption) ?_
 rotate_left
 ·(intro w9 hSw;(try dsimp only at hSw);go_simp<;>with_reducible rfl)
 try simp only[Act.put,tA,tZ,tS]
 refine aF (i:=2) (v:=?_) (nP) (oc) (oc) (oc) (oc) (nQ) (Or.inl ⟨by rfl,?_⟩) (fun _=>by assumption) ?_
 rotate_left
 ·(intro w9 hSw;(try dsimp only at hSw);go_simp<;>with_reducible rfl)
 try simp only[Act.put,tA,tZ,tS]
 refine aF (i:=3) (v:=?_) (nP) (oc) (oc) (oc) (oc) (nQ) (Or.inl ⟨by rfl,?_⟩) (fun _=>by assumption) ?_
 rotate_left
 ·(intro w9 hSw;(try dsimp only at hSw);go_simp<;>with_reducible rfl)
 try simp only[Act.put,tA,tZ,tS]
 refine aF (i:=4) (v:=?_) (nP) (oc) (oc) (oc) (oc) (nQ) (Or.inl ⟨by rfl,?_⟩) (fun _=>by assumption) ?_
 rotate_left
 ·(intro w9 hSw;(try dsimp only at hSw);go_simp<;>with_reducible rfl)
 try simp only[Act.put,tA,tZ,tS]
 refine aZ (i:=5) (v:=?_) (nP) (oc) (oc) (oc) (oc) (nQ) (Or.inl ⟨by rfl,?_⟩) (nZ) ?_
 rotate_left
 ·(intro w9 hSw;(try dsimp only at hSw);have q0:=hSw;obtain⟨ax0,ax1,ax2,ax3,ax4,ax5,ax6,ax7,ax8,ax9,ax10,ax11,ax12⟩:=eu q0;go_simp<;>with_reducible rfl)
 try simp only[Act.put,tA,tZ,tS]
 refine aF (i:=6) (v:=?_) (nP) (oc) (oc) (oc) (oc) (nQ) (Or.inl ⟨by rfl,?_⟩) (fun _=>by assumption) ?_
 rotate_left
 ·(intro w9 hSw;(try dsimp only at hSw);go_simp<;>with_reducible rfl)
 try simp only[Act.put,tA,tZ,tS]
 refine aF (i:=8) (v:=?_) (nP) (oc) (oc) (oc) (oc) (nQ) (Or.inl ⟨by rfl,?_⟩) (fun _=>by assumption) ?_
 rotate_left
 ·(intro w9 hSw;(try dsimp only at hSw);go_simp<;>with_reducible rfl)
 try simp only[Act.put,tA,tZ,tS]
 refine aF (i:=9) (v:=?_) (nP) (oc) (oc) (oc) (oc) (nQ) (Or.inl ⟨by rfl,?_⟩) (fun _=>by assumption) ?_
 rotate_left
 ·(intro w9 hSw;(try dsimp only at hSw);go_simp<;>with_reducible rfl)
 try simp only[Act.put,tA,tZ,tS]
 refine aF (i:=10) (v:=?_) (nP) (oc) (oc) (oc) (oc) (nQ) (Or.inl ⟨by rfl,?_⟩) (fun _=>by assumption) ?_
 rotate_left
 ·(intro w9 hSw;(try dsimp only at hSw);go_simp<;>with_reducible rfl)
 try simp only[Act.put,tA,tZ,tS]
 refine aZ (i:=11) (v:=?_) (nP) (oc) (oc) (oc) (oc) (nQ) (Or.inl ⟨by rfl,?_⟩) (nZ) ?_
 rotate_left
 ·(intro w9 hSw;(try dsimp only at hSw);have q0:=hSw;obtain⟨ax0,ax1,ax2,ax3,ax4,ax5,ax6,ax7,ax8,ax9,ax10,ax11,ax12⟩:=eu q0;go_simp<;>with_reducible rfl)
 try simp only[Act.put,tA,tZ,tS]
 refine aF (i:=12) (v:=?_) (nP) (oc) (oc) (oc) (oc) (nQ) (Or.inl ⟨by rfl,?_⟩) (fun _=>by assumption) ?_
 rotate_left
 ·(intro w9 hSw;(try dsimp only at hSw);go_simp<;>with_reducible rfl)
 try simp only[Act.put,tA,tZ,tS]
 refine bf (rs:=[7]) (oc) (by simp) ?_
 refine aL.cons (nP) (fun K hK=>?_) aL.nil
 go_simp
 (go_at_call 95;refine(gM _ _ _ _ _ _ HG).mono ?_;rintro e9 w1 ⟨rfl,hbw1⟩)
 (try go_wp2_with fail)
 have hw1:w1.heap[g]? =some (.cells #[.int .i64 ky,.int .i64 st,.int .i64 en,.int .i64 an,.int .i64 asu,.int .i64 ale,.int .i64 amo,.int .i64 fn,.int .i64 fsu,.int .i64 fle,.int .i64 fmo,.int .i64 td,.bool tm] 57 (0,0)):=(hbw1.block g (by show g<w.heap.size;omega)).trans h
 have zw1:w.heap.size≤w1.heap.size:=hbw1.size
 clear hHeld
 refine hK.out _ _ ?_ (fun hHeld=>?_)
 ·(try dsimp only);exact hw1
 clear hK K
 try simp only[Act.put,tA,tZ,tS]
 refine bf (rs:=[13]) (oc) (by simp) ?_
 refine aL.cons (nP) (fun K hK=>?_) aL.nil
 go_simp
 (go_at_call 95;refine(gM _ _ _ _ _ _ HF).mono ?_;rintro e9 w2 ⟨rfl,hbw2⟩)
 (try go_wp2_with fail)
 have hw2:w2.heap[g]? =some (.cells #[.int .i64 ky,.int .i64 st,.int .i64 en,.int .i64 an,.int .i64 asu,.int .i64 ale,.int .i64 amo,.int .i64 fn,.int .i64 fsu,.int .i64 fle,.int .i64 fmo,.int .i64 td,.bool tm] 57 (0,0)):=(hbw2.block g (by show g<w1.heap.size;omega)).trans hw1
 have zw2:w1.heap.size≤w2.heap.size:=hbw2.size
 clear hHeld
 refine hK.out _ _ ?_ (fun hHeld=>?_)
 ·(try dsimp only);exact hw2
 clear hK K
 try simp only[Act.put,tA,tZ,tS]
 refine aF (i:=14) (v:=?_) (nP) (oc) (oc) (oc) (oc) (nQ) (Or.inl ⟨by rfl,?_⟩) (fun _=>by assumption) ?_
 rotate_left
 ·(intro w9 hSw;(try dsimp only at hSw);go_simp<;>with_reducible rfl)
 try simp only[Act.put,tA,tZ,tS]
 refine aF (i:=15) (v:=?_) (nP) (oc) (oc) (oc) (oc) (nQ) (Or.inl ⟨by rfl,?_⟩) (fun _=>by assumption) ?_
 rotate_left
 ·(intro w9 hSw;(try dsimp only at hSw);go_simp<;>with_reducible rfl)
 try simp only[Act.put,tA,tZ,tS]
 obtain⟨c0,c1,c2,c3,c4,c5,c6,c7,c8,c9,cZ,c11,c12⟩:=eu hw2
 have cf3:=cF hw2 3
 have cf4:=cF hw2 4
 have cf5:=cF hw2 5
 have cf6:=cF hw2 6
 have cf7:=cF hw2 7
 have cf8:=cF hw2 8
 have cf9:=cF hw2 9
 have cf10:=cF hw2 10
 have zg2:g<w2.heap.size:=by omega
 refine bf (rs:=[16]) (oc) (by simp) ?_
 refine aL.consS (nP) (oc) (fun K hK=>?_) aL.nil
 go_simp
 refine hK.out _ _ ?_
 clear hK K
 try simp only[Act.put,tA,tZ,tS]
 refine aF (i:=17) (v:=?_) (nP) (oc) (oc) (oc) (oc) (nQ) (Or.inl ⟨by rfl,?_⟩) (SL_of (oc)) ?_
 rotate_left
 ·(intro w9 hSw;(try dsimp only at hSw);go_simp<;>with_reducible rfl)
 try simp only[Act.put,tA,tZ,tS]
 refine aF (i:=18) (v:=?_) (nP) (oc) (oc) (oc) (oc) (nQ) (Or.inl ⟨by rfl,?_⟩) (SL_of (oc)) ?_
 rotate_left
 ·(intro w9 hSw;(try dsimp only at hSw);go_simp<;>with_reducible rfl)
 try simp only[Act.put,tA,tZ,tS]
 refine bf (rs:=[19]) (oc) (by simp) ?_
 refine aL.consS (nP) (oc) (fun K hK=>?_) aL.nil
 go_simp
 refine hK.out _ _ ?_
 clear hK K
 try simp only[Act.put,tA,tZ,tS]
 refine ef (oc) ?_ _
 clear c0 c1 c2 c3 c4 c5 c6 c7 c8 c9 cZ c11 c12 cf3 cf4 cf5 cf6 cf7 cf8 cf9 cf10
 have s0:=Joins.block_setCell (g:=g) (i:=3) hw2 (.int .i64 g1)
 have s1:=Joins.block_setCell (g:=g) (i:=4) s0 (.int .i64 g2)
 have s2:=Joins.block_setCell (g:=g) (i:=5) s1 (.int .i64 g3)
 have s3:=Joins.block_setCell (g:=g) (i:=6) s2 (.int .i64 g4)
 have u0:(((((w2.setCell ⟨g,3,none⟩ (.int .i64 g1)).setCell ⟨g,4,none⟩ (.int .i64 g2)).setCell ⟨g,5,none⟩ (.int .i64 g3)).setCell ⟨g,6,none⟩ (.int .i64 g4)).setCell ⟨g,7,none⟩ (.int .i64 f1)).heap[g]? =some (.cells #[.int .i64 ky,.int .i64 st,.int .i64 en,.int .i64 g1,.int .i64 g2,.int .i64 g3,.int .i64 g4,.int .i64 f1,.int .i64 fsu,.int .i64 fle,.int .i64 fmo,.int .i64 td,.bool tm] 57 (0,0)):=Joins.block_setCell s3 _
 have u1:=Joins.block_setCell (g:=g) (i:=8) u0 (.int .i64 f2)
 have u2:=Joins.block_setCell (g:=g) (i:=9) u1 (.int .i64 f3)
 have u3:((((((((w2.setCell ⟨g,3,none⟩ (.int .i64 g1)).setCell ⟨g,4,none⟩ (.int .i64 g2)).setCell ⟨g,5,none⟩ (.int .i64 g3)).setCell ⟨g,6,none⟩ (.int .i64 g4)).setCell ⟨g,7,none⟩ (.int .i64 f1)).setCell ⟨g,8,none⟩ (.int .i64 f2)).setCell ⟨g,9,none⟩ (.int .i64 f3)).setCell ⟨g,10,none⟩ (.int .i64 f4)).heap[g]? =some (.cells #[.int .i64 ky,.int .i64 st,.int .i64 en,.int .i64 g1,.int .i64 g2,.int .i64 g3,.int .i64 g4,.int .i64 f1,.int .i64 f2,.int .i64 f3,.int .i64 f4,.int .i64 td,.bool tm] 57 (0,0)):=Joins.block_setCell u2 _
 have hgr0:w.grownBy w2 (some g):=iw (am (am (ap (Below.refl _ _)) hbw1) hbw2)
 have hgr:w.grownBy ((((((((w2.setCell ⟨g,3,none⟩ (.int .i64 g1)).setCell ⟨g,4,none⟩ (.int .i64 g2)).setCell ⟨g,5,none⟩ (.int .i64 g3)).setCell ⟨g,6,none⟩ (.int .i64 g4)).setCell ⟨g,7,none⟩ (.int .i64 f1)).setCell ⟨g,8,none⟩ (.int .i64 f2)).setCell ⟨g,9,none⟩ (.int .i64 f3)).setCell ⟨g,10,none⟩ (.int .i64 f4)) (some g):=aK (aK (aK (aK (aK (aK (aK (aK (hgr0) (.inl rfl) _) (.inl rfl) _) (.inl rfl) _) (.inl rfl) _) (.inl rfl) _) (.inl rfl) _) (.inl rfl) _) (.inl rfl) _
 generalize ((((((((w2.setCell ⟨g,3,none⟩ (.int .i64 g1)).setCell ⟨g,4,none⟩ (.int .i64 g2)).setCell ⟨g,5,none⟩ (.int .i64 g3)).setCell ⟨g,6,none⟩ (.int .i64 g4)).setCell ⟨g,7,none⟩ (.int .i64 f1)).setCell ⟨g,8,none⟩ (.int .i64 f2)).setCell ⟨g,9,none⟩ (.int .i64 f3)).setCell ⟨g,10,none⟩ (.int .i64 f4))=w3 at hgr u3 ⊢
 go_wp2
 refine⟨rfl,.tuple #[],results_none rfl _ _ _,rfl,?_,hgr⟩
 rw[ab HK]
 exact u3
end Go.Proofs.YtdmhihcipkhecaaGreat
