import Derived.Test.YtnfejdfjlnpldaaGreatDoorIdMn
import Derived.Test.YtnfejdfjlnpldaaGreatDoorRIdF0
import Derived.Test.YtnfejdfjlnpldaaGreatDoorGT2
set_option maxHeartbeats 6400000
set_option maxRecDepth 100000
namespace Go.Proofs.YtnfejdfjlnpldaaGreatDoor
open Go.RowKit
set_option maxRecDepth 100000 in
theorem build_rt12 (t:Tk) (W:World):(Instr.build 30 #[(0,.agg t.v.toArray)]).run Tryz.prog W=.ok (.agg (rcell t.rq).toArray) W:=by
 obtain ⟨k,g,h,hb⟩:=t
 obtain ⟨x0,x1,x2,x3,x4,x5,x6,x7,x8,x9,x10,x11,x12,x13,x14,x15,x16,x17,x18,x19,x20,x21,x22,x23,x24,x25,x26,x27,x28,x29,x30,x31,rfl⟩:=list32 h
 kernel_rfl
set_option maxRecDepth 100000 in
theorem build_fr0 (k:Nums) {g:List Int} (h:g.length=32) (e c:Int) (W:World):(Instr.build 37 #[(0,.int .u8 1),(1,.agg (tcell k g ++ [Value.int .u16 e,Value.int .u32 c]).toArray)]).run Tryz.prog W=.ok (.agg (Value.int .u8 1 :: ((tcell k g ++ [Value.int .u16 e,Value.int .u32 c]) ++ ccell Cmd.zero)).toArray) W:=by
 obtain ⟨x0,x1,x2,x3,x4,x5,x6,x7,x8,x9,x10,x11,x12,x13,x14,x15,x16,x17,x18,x19,x20,x21,x22,x23,x24,x25,x26,x27,x28,x29,x30,x31,rfl⟩:=list32 h
 kernel_rfl
set_option maxRecDepth 100000 in
theorem build_fc0 (op t u b0 r0 p0 b1 r1 p1 b2 r2 p2 us en x:Int) {g:List Int} (h:g.length=32) (W:World):(Instr.build 37 #[(0,.int .u8 2),(2,.agg (.int .u8 op :: .int .u32 t :: .int .u32 u :: .int .i64 b0 :: .int .i64 r0 :: .int .i64 p0 :: .int .i64 b1 :: .int .i64 r1 :: .int .i64 p1 :: .int .i64 b2 :: .int .i64 r2 :: .int .i64 p2 :: .int .u8 us :: .int .u8 en :: .int .u64 x :: g.map (Value.int .u8)).toArray)]).run Tryz.prog W =
   .ok (.agg (Value.int .u8 2 :: (rcell Req.zero ++ (.int .u8 op :: .int .u32 t :: .int .u32 u :: .int .i64 b0 :: .int .i64 r0 :: .int .i64 p0 :: .int .i64 b1 :: .int .i64 r1 :: .int .i64 p1 :: .int .i64 b2 :: .int .i64 r2 :: .int .i64 p2 :: .int .u8 us :: .int .u8 en :: .int .u64 x :: g.map (Value.int .u8)))).toArray) W:=by
 obtain ⟨x0,x1,x2,x3,x4,x5,x6,x7,x8,x9,x10,x11,x12,x13,x14,x15,x16,x17,x18,x19,x20,x21,x22,x23,x24,x25,x26,x27,x28,x29,x30,x31,rfl⟩:=list32 h
 kernel_rfl
theorem build_mr0 (r:Req) (W:World):(Instr.build 37 #[(0,.int .u8 1),(1,.agg (rcell r).toArray)]).run Tryz.prog W=.ok (.agg (mcell (Frm.req r)).toArray) W:=build_fr0 r.k r.hg r.ep r.co W
theorem build_mc0 (c:Cmd) (W:World):(Instr.build 37 #[(0,.int .u8 2),(2,.agg (ccell c).toArray)]).run Tryz.prog W=.ok (.agg (mcell (Frm.cmd c)).toArray) W :=
 build_fc0 c.op c.t c.u c.l0.b c.l0.r c.l0.p c.l1.b c.l1.r c.l1.p c.l2.b c.l2.r c.l2.p c.us c.en c.x c.hg W
set_option maxRecDepth 100000 in
set_option maxHeartbeats 6400000 in
theorem psize_is {v:Value} {ts:List Tk} {cs:List Cmd} {n:Nat} (w:World) (h1:IsD w v ts cs) (hn:ts.length + cs.length=n) (hl:n≤1000):Calls Tryz.prog 70 #[v] w fun e w'=>e=.returned (.int .i64 n)∧Below w.heap.size w w':=by
 obtain ⟨v1,v2,rfl,g1,g2⟩:=id h1
 obtain ⟨a1,c1,rfl,hr1⟩:=id g1;obtain ⟨a2,c2,rfl,hr2⟩:=id g2
 have m1:=hr1.most;have r1:=hr1.room;have m2:=hr2.most;have r2:=hr2.room;have H1:=Lib.hid g1;have H2:=Lib.hid g2
 clear hr1 hr2 g1 g2 h1
 have W1:IntKind.i64.wrap ((ts.length:Int) + (cs.length:Int))=(n:Int):=by rw [IntKind.wrap_i64];omega
 clear H1 H2 hl hn
 go_enter Tryz.func70,Tryz.ntmps70
 go_upto_region 1 with fail
 refine F_gen (F:=fun W=>Code.wp _ _ _ _ W) (J:=fun W=>Box W (w.heap.size) ([.slice a1 ts.length c1,.slice a2 cs.length c2])∧Below w.heap.size w W) (And.intro (Box.newc rfl rfl) (by go_grown)) ?_
 intro w0 ⟨e_d,hB0⟩
 have hs0:=hB0.size
 have x_d0:=e_d;clear e_d
 have ca:=(x_d0).c 0 _ rfl
 have za:=(x_d0).lt
 have cb:=(x_d0).c 1 _ rfl
 have zb:=(x_d0).lt
 go_wp2_with fail
 go_returns
 exact ⟨rfl,hB0⟩
set_option maxRecDepth 100000 in
set_option maxHeartbeats 6400000 in
theorem poftok_is (t:Tk) (w:World):Calls Tryz.prog 42 #[.agg t.v.toArray] w fun e w'=>e=.returned (.agg (mcell t.fr).toArray)∧Below w.heap.size w w':=by
 have SP:=Lib.hid (size_tk t)
 have SF:=Lib.hid (size_frm t.fr);have LF:=Lib.hid (len_frm Frm.zero t.fr);have OF:=Lib.hid (one_frm t.fr)
 have B2:=fun W=>build_rt12 t W;have B3:∀ W,(Instr.build 37 #[(0,.int .u8 1),(1,.agg (rcell t.rq).toArray)]).run Tryz.prog W=.ok (.agg (mcell t.fr).toArray) W:=fun W=>build_mr0 t.rq W
 obtain ⟨R,hR⟩:∃ X,rcell t.rq=X:=⟨_,rfl⟩
 rw [hR] at B2 B3
 clear hR
 obtain ⟨V,hV⟩:∃ X,t.v=X:=⟨_,rfl⟩
 rw [hV] at SP B2 ⊢
 clear hV
 obtain ⟨F,hF⟩:∃ X,mcell t.fr=X:=⟨_,rfl⟩
 rw [hF] at B3 SF LF OF ⊢
 clear hF
 go_enter Tryz.func42,Tryz.ntmps42
 go_upto_region 1 with fail
 refine F_gen (F:=fun W=>Code.wp _ _ _ _ W) (J:=fun W=>Box W (w.heap.size) (V)∧Box W (w.heap.size + 1) (mcell Frm.zero)∧Below w.heap.size w W) (And.intro (Box.alloc (Box.newc rfl rfl) _) (And.intro (Box.newc rfl (by simp)) (by go_grown))) ?_
 intro w0 ⟨e_t,e_r,hB0⟩
 have hs0:=hB0.size
 have x_t0:=e_t;clear e_t
 have x_r0:=e_r;clear e_r
 have lq:=(x_r0).lt
 go_wp2_with (first | (refine wpList_load_box9 rfl _ _ rfl x_t0 rfl Tryz.underlying27 rfl SP.out ?_) | (refine wpList_build9 rfl 30 _ rfl (us:=#[(0,.agg V.toArray)]) (by rfl) (B2 _) ?_) | (refine wpList_build9 rfl 37 _ rfl (us:=#[(0,.int .u8 1),(1,.agg R.toArray)]) (by rfl) (B3 _) ?_) | (refine wpList_store_box (cs:=F) rfl _ _ _ rfl x_r0 rfl rfl SF.out LF.out OF.out ?_;intro W99 hW99))
 exact bodyPost_ret (results_box Tryz.results42 hW99.box rfl Tryz.underlying37 rfl SF.out) rfl ⟨rfl,hW99.below _ _ (by omega) hB0⟩
set_option maxRecDepth 100000 in
set_option maxHeartbeats 6400000 in
theorem pofcmd_is (c:Cmd) (w:World):Calls Tryz.prog 64 #[.agg (ccell c).toArray] w fun e w'=>e=.returned (.agg (mcell (Frm.cmd c)).toArray)∧Below w.heap.size w w':=by
 have SP:=Lib.hid (size_cmd c)
 have SF:=Lib.hid (size_frm (Frm.cmd c));have LF:=Lib.hid (len_frm Frm.zero (Frm.cmd c));have OF:=Lib.hid (one_frm (Frm.cmd c))
 have B3:=fun W=>build_mc0 c W
 obtain ⟨V,hV⟩:∃ X,ccell c=X:=⟨_,rfl⟩
 rw [hV] at SP B3 ⊢
 clear hV
 obtain ⟨F,hF⟩:∃ X,mcell (Frm.cmd c)=X:=⟨_,rfl⟩
 rw [hF] at B3 SF LF OF ⊢
 clear hF
 go_enter Tryz.func64,Tryz.ntmps64
 go_upto_region 1 with fail
 refine F_gen (F:=fun W=>Code.wp _ _ _ _ W) (J:=fun W=>Box W (w.heap.size) (V)∧Box W (w.heap.size + 1) (mcell Frm.zero)∧Below w.heap.size w W) (And.intro (Box.alloc (Box.newc rfl rfl) _) (And.intro (Box.newc rfl (by simp)) (by go_grown))) ?_
 intro w0 ⟨e_c,e_r,hB0⟩
 have hs0:=hB0.size
 have x_c0:=e_c;clear e_c
 have x_r0:=e_r;clear e_r
 have lq:=(x_r0).lt
 go_wp2_with (first | (refine wpList_load_box9 rfl _ _ rfl x_c0 rfl Tryz.underlying35 rfl SP.out ?_) | (refine wpList_build9 rfl 37 _ rfl (us:=#[(0,.int .u8 2),(2,.agg V.toArray)]) (by rfl) (B3 _) ?_) | (refine wpList_store_box (cs:=F) rfl _ _ _ rfl x_r0 rfl rfl SF.out LF.out OF.out ?_;intro W99 hW99))
 exact bodyPost_ret (results_box Tryz.results64 hW99.box rfl Tryz.underlying37 rfl SF.out) rfl ⟨rfl,hW99.below _ _ (by omega) hB0⟩
set_option maxRecDepth 100000 in
set_option maxHeartbeats 6400000 in
theorem pmint_is (v1 v2:Value) (w:World):Calls Tryz.prog 46 #[.agg #[v1,v2]] w fun e w'=>e=.returned (.func (.func 73) #[] #[.pointer (some ⟨w.heap.size,0,none⟩)])∧w'=w.alloc (.cells #[v1,v2] 62):=by
 go_enter Tryz.func46,Tryz.ntmps46
 go_wp2_with fail
 go_returns
 exact ⟨rfl,rfl⟩
set_option maxRecDepth 100000 in
set_option maxHeartbeats 6400000 in
theorem pnew_is (w:World):Calls Tryz.prog 15 #[] w (GivesD [] [] w):=by
 have BI:=fun W=>build_i0 W
 go_enter Tryz.func15,Tryz.ntmps15
 go_upto_region 1 with fail
 refine F_gen (F:=fun W=>Code.wp _ _ _ _ W) (J:=fun W=>Box W (w.heap.size) (id0)∧Below w.heap.size w W) (And.intro (Box.newc rfl rfl) (by go_grown)) ?_
 intro w0 ⟨e_r,hB0⟩
 have hs0:=hB0.size
 have x_r0:=e_r;clear e_r
 have lq:=(x_r0).lt
 go_wp2_with (first | (refine wpList_build9 rfl 62 _ rfl (us:=#[]) (by rfl) (BI _) ?_) | (refine wpList_store_box (cs:=id0) rfl _ _ _ rfl x_r0 rfl rfl size_i0 rfl one_i0 ?_;intro W99 hW99))
 exact bodyPost_ret (results_box Tryz.results15 hW99.box rfl Tryz.underlying62 rfl size_i0) rfl ⟨_,_,rfl,ownR_none,ownR_none,hW99.below _ _ (by omega) hB0⟩
set_option maxRecDepth 100000 in
set_option maxHeartbeats 6400000 in
theorem por_a {b c:Nat} {x y:Int} (h:x ≠ 0) (w:World) (h1:Box w b [.int .i64 x,.int .i64 y]):Calls Tryz.prog 44 #[.slice (some ⟨b,0,none⟩) 2 c] w fun e w'=>e=.returned (.int .i64 x)∧Below w.heap.size w w':=by
 have hB0:=Below.refl w.heap.size w
 have ca:=h1.c 0 _ rfl;have cb:=h1.c 1 _ rfl;have zb:=h1.lt
 have d1:(x != 0)=true:=by rw [bne_iff_ne];exact h
 clear h h1
 go_enter Tryz.func44,Tryz.ntmps44
 go_wp2_with fail
 refine wp_loop_rounds 3 ?_
 rw [rounds_succ]
 go_wp2_with fail
 go_returns
 exact ⟨rfl,hB0⟩
set_option maxRecDepth 100000 in
set_option maxHeartbeats 6400000 in
theorem por_b {b c:Nat} {x y:Int} (h:x=0) (h2:y ≠ 0) (w:World) (h1:Box w b [.int .i64 x,.int .i64 y]):Calls Tryz.prog 44 #[.slice (some ⟨b,0,none⟩) 2 c] w fun e w'=>e=.returned (.int .i64 y)∧Below w.heap.size w w':=by
 have hB0:=Below.refl w.heap.size w
 have ca:=h1.c 0 _ rfl;have cb:=h1.c 1 _ rfl;have zb:=h1.lt
 subst h;have d0:((0:Int) != 0)=false:=rfl
 have d1:(y != 0)=true:=by rw [bne_iff_ne];exact h2
 clear h2 h1
 go_enter Tryz.func44,Tryz.ntmps44
 go_wp2_with fail
 refine wp_loop_rounds 3 ?_
 rw [rounds_succ]
 go_wp2_with fail
 rw [rounds_succ]
 go_wp2_with fail
 go_returns
 exact ⟨rfl,hB0⟩
set_option maxRecDepth 100000 in
set_option maxHeartbeats 6400000 in
theorem por_c {b c:Nat} {x y:Int} (h:x=0) (h2:y=0) (w:World) (h1:Box w b [.int .i64 x,.int .i64 y]):Calls Tryz.prog 44 #[.slice (some ⟨b,0,none⟩) 2 c] w fun e w'=>e=.returned (.int .i64 y)∧Below w.heap.size w w':=by
 have hB0:=Below.refl w.heap.size w
 have ca:=h1.c 0 _ rfl;have cb:=h1.c 1 _ rfl;have zb:=h1.lt
 subst h;have d0:((0:Int) != 0)=false:=rfl
 subst h2;clear h1
 go_enter Tryz.func44,Tryz.ntmps44
 go_wp2_with fail
 refine wp_loop_rounds 3 ?_
 rw [rounds_succ]
 go_wp2_with fail
 rw [rounds_succ]
 go_wp2_with fail
 rw [rounds_succ]
 go_wp2_with fail
 go_returns
 exact ⟨rfl,hB0⟩
theorem por_is {b c:Nat} {x y r:Int} (h:(x ≠ 0∧r=x)∨(x=0∧r=y)) (w:World) (h1:Box w b [.int .i64 x,.int .i64 y]):Calls Tryz.prog 44 #[.slice (some ⟨b,0,none⟩) 2 c] w fun e w'=>e=.returned (.int .i64 r)∧Below w.heap.size w w':=by
 rcases h with ⟨h,rfl⟩ | ⟨h,rfl⟩
 · exact por_a h w h1
 · by_cases h2:r=0
   · exact por_c h h2 w h1
   · exact por_b h h2 w h1
end Go.Proofs.YtnfejdfjlnpldaaGreatDoor
