import Derived.Test.YtnfejdfjlnpldaaGreatDoorIdPkD
import Derived.Test.YtnfejdfjlnpldaaGreatDoorIdMo
set_option maxHeartbeats 6400000
set_option maxRecDepth 100000
namespace Go.Proofs.YtnfejdfjlnpldaaGreatDoor
open Go.RowKit Go.Shelf
attribute [local go_sem] Oper.semAt_some
set_option maxRecDepth 100000 in
set_option maxHeartbeats 6400000 in
theorem pfnd_x {v:Value} {ts:List Tk} {cs:List Cmd} (f:Frm) (hl:ts.length + cs.length≤180) {b:Bool} {q:Int} (h:FndF ts cs f b q) (w:World) (h1:IsD w v ts cs):CallsIn Fence.wide 3 Tryz.prog 41 #[v,.agg (mcell f).toArray] w fun e w'=>e=.returned (.tuple #[.bool b,.int .i64 q])∧Below w.heap.size w w':=by
 obtain ⟨qa,hqa⟩:=ChkD.ex ts cs;obtain ⟨qb,hqb⟩:=frm_err f;obtain ⟨qr,hqr⟩:=or_err qa qb
 have CK:=fun (W:World) (u:Value) (h:IsD W u ts cs)=>pchk_is W h hl hqa;have FK:=fun W=>chk_is f (Lib.hid hqb) W;have HR:=Lib.hid hqr;have HA:=Lib.hid hqa;have HB:=Lib.hid hqb;have HH:=Lib.hid h;have HD:=Lib.hid h1
 obtain ⟨v1,v2,rfl,g1,g2⟩:=id h1
 obtain ⟨a1,c1,rfl,hr1⟩:=id g1;obtain ⟨a2,c2,rfl,hr2⟩:=id g2
 have m1:=hr1.most;have r1:=hr1.room;have m2:=hr2.most;have r2:=hr2.room;have H1:=Lib.hid g1;have H2:=Lib.hid g2
 clear hr1 hr2 g1 g2 h1
 have SV:=Lib.hid (size_frm f)
 clear hqa hqb hqr h hl
 obtain ⟨V,hV⟩:∃ X,mcell f=X:=⟨_,rfl⟩;rw [hV] at SV FK ⊢
 refine callsIn_of_wp_marks Tryz.func41 rfl trivial ?_ rfl
 simp only [Tryz.ntmps41,List.size_toArray,List.length_cons,List.length_nil,Nat.reduceAdd,Nat.reduceSub,Array.replicate_succ,Array.replicate_zero,List.push_toArray,List.append_toArray,List.nil_append,List.cons_append]
 gi_wp2
 refine F_gen (F:=fun W=>Code.wpIn _ _ _ _ _ _ W) (J:=fun W=>Box W (w.heap.size) ([.slice a1 ts.length c1,.slice a2 cs.length c2])∧Box W (w.heap.size + 1) (V)∧Box W (w.heap.size + 2) ([.bool false])∧Box W (w.heap.size + 3) ([.int .i64 0])∧Below w.heap.size w W) (And.intro (Box.alloc (Box.alloc (Box.alloc (Box.newc (l:=[.slice a1 ts.length c1,.slice a2 cs.length c2]) rfl rfl) _) _) _) (And.intro (Box.alloc (Box.alloc (Box.newc (l:=V) rfl (by simp)) _) _) (And.intro (Box.alloc (Box.newc (l:=[.bool false]) rfl (by simp)) _) (And.intro (Box.newc (l:=[.int .i64 0]) rfl (by simp)) (((((Below.refl _ w).alloc (Nat.le_refl _) _).alloc (by simp) _).alloc (by simp;omega) _).alloc (by simp;omega) _))))) ?_
 intro w0 ⟨x_d0,x_f0,x_b0,x_e0,hB0⟩
 have hs0:=hB0.size
 refine region_held_calm (S:=fun W=>Box W (w.heap.size) ([.slice a1 ts.length c1,.slice a2 cs.length c2])∧Box W (w.heap.size + 1) (V)∧Box W (w.heap.size + 2) ([.bool false])∧Box W (w.heap.size + 3) ([.int .i64 0])) Wd.wide rfl (by kernel_rfl) (And.intro (x_d0).drew (And.intro (x_f0).drew (And.intro (x_b0).drew (x_e0).drew))) (fun _=>?_)
 refine F_drew (F:=fun W=>wpAnyH _ _ _ _ _ _ _ _ W) ?_
 intro Wp0 hbp0
 clear hs0
 have x_d_p0:Box Wp0 (w.heap.size) ([.slice a1 ts.length c1,.slice a2 cs.length c2]):=Box.below x_d0 hbp0
 have x_f_p0:Box Wp0 (w.heap.size + 1) (V):=Box.below x_f0 hbp0
 have x_b_p0:Box Wp0 (w.heap.size + 2) ([.bool false]):=Box.below x_b0 hbp0
 have x_e_p0:Box Wp0 (w.heap.size + 3) ([.int .i64 0]):=Box.below x_e0 hbp0
 have Bp0:=below_thru hB0 hbp0
 clear x_d0 x_f0 x_b0 x_e0 hB0 hbp0
 refine takeH 0 9 (v:=.agg ([.slice a1 ts.length c1,.slice a2 cs.length c2]).toArray) rfl (by rfl) (by kernel_rfl) (by kernel_rfl) (by kernel_rfl) (fun _ _ _ h=>h) (yieldsIf_load_mid (by rfl) _ _ rfl _ _ rfl ([.slice a1 ts.length c1,.slice a2 cs.length c2]) _ (fun wq hq=>Box.range (hq.1)) Tryz.underlying62 rfl (size_id12 _ _)) ((And.intro x_d_p0 (And.intro x_f_p0 (And.intro x_b_p0 x_e_p0)))) ?_
 try simp only [Act.put,qzA,qz0,qzS]
 refine takeH 2 11 (v:=.agg (V).toArray) rfl (by rfl) (by kernel_rfl) (by kernel_rfl) (by kernel_rfl) (fun _ _ _ h=>h) (yieldsIf_load_mid (by rfl) _ _ rfl _ _ rfl (V) _ (fun wq hq=>Box.range (hq.2.1)) Tryz.underlying37 rfl SV.out) ((And.intro x_d_p0 (And.intro x_f_p0 (And.intro x_b_p0 x_e_p0)))) ?_
 try simp only [Act.put,qzA,qz0,qzS]
 refine wpAnyH_ready (rs:=[1]) (by kernel_rfl) (by simp) (AllReadyH.cons rfl (fun K hK=>?_) AllReadyH.nil)
 go_simp
 refine (CK _ _ (HD.out.below Bp0)).mono ?_
 rintro e Wp1 ⟨rfl,hbp1⟩
 have x_d_p1:Box Wp1 (w.heap.size) ([.slice a1 ts.length c1,.slice a2 cs.length c2]):=Box.below x_d_p0 hbp1
 have x_f_p1:Box Wp1 (w.heap.size + 1) (V):=Box.below x_f_p0 hbp1
 have x_b_p1:Box Wp1 (w.heap.size + 2) ([.bool false]):=Box.below x_b_p0 hbp1
 have x_e_p1:Box Wp1 (w.heap.size + 3) ([.int .i64 0]):=Box.below x_e_p0 hbp1
 have Bp1:=below_thru Bp0 hbp1
 clear x_d_p0 x_f_p0 x_b_p0 x_e_p0 Bp0 hbp1
 refine hK.out _ _ (And.intro x_d_p1 (And.intro x_f_p1 (And.intro x_b_p1 x_e_p1))) (fun _=>?_);clear hK K
 refine wpAnyH_ready (rs:=[3]) (by kernel_rfl) (by simp) (AllReadyH.cons rfl (fun K hK=>?_) AllReadyH.nil)
 go_simp
 refine (FK _).mono ?_
 rintro e Wp2 ⟨rfl,hbp2⟩
 have x_d_p2:Box Wp2 (w.heap.size) ([.slice a1 ts.length c1,.slice a2 cs.length c2]):=Box.below x_d_p1 hbp2
 have x_f_p2:Box Wp2 (w.heap.size + 1) (V):=Box.below x_f_p1 hbp2
 have x_b_p2:Box Wp2 (w.heap.size + 2) ([.bool false]):=Box.below x_b_p1 hbp2
 have x_e_p2:Box Wp2 (w.heap.size + 3) ([.int .i64 0]):=Box.below x_e_p1 hbp2
 have Bp2:=below_thru Bp1 hbp2
 clear x_d_p1 x_f_p1 x_b_p1 x_e_p1 Bp1 hbp2
 refine hK.out _ _ (And.intro x_d_p2 (And.intro x_f_p2 (And.intro x_b_p2 x_e_p2))) (fun _=>?_);clear hK K
 refine wpAnyH_ready (rs:=[4]) (by kernel_rfl) (by simp) (AllReadyH.cons rfl (fun K hK=>?_) AllReadyH.nil)
 go_simp
 refine hK.out _ _ (And.intro (Box.alloc x_d_p2 _) (And.intro (Box.alloc x_f_p2 _) (And.intro (Box.alloc x_b_p2 _) (Box.alloc x_e_p2 _)))) (fun _=>?_);clear hK K
 refine F_gen (F:=fun W=>wpAnyH _ _ _ _ _ _ _ _ W) (J:=fun W=>Box W Wp2.heap.size [.int .i64 qa,.int .i64 qb]∧Below Wp2.heap.size Wp2 W) (And.intro (Box.newc rfl rfl) ((Below.refl _ _).alloc (Nat.le_refl _) _)) ?_
 intro Wp3 ⟨na_ob_p3,hbp3⟩
 have x_d_p3:Box Wp3 (w.heap.size) ([.slice a1 ts.length c1,.slice a2 cs.length c2]):=Box.below x_d_p2 hbp3
 have x_f_p3:Box Wp3 (w.heap.size + 1) (V):=Box.below x_f_p2 hbp3
 have x_b_p3:Box Wp3 (w.heap.size + 2) ([.bool false]):=Box.below x_b_p2 hbp3
 have x_e_p3:Box Wp3 (w.heap.size + 3) ([.int .i64 0]):=Box.below x_e_p2 hbp3
 have Bp3:=below_thru Bp2 hbp3
 clear x_d_p2 x_f_p2 x_b_p2 x_e_p2 Bp2 hbp3
 refine wpAnyH_ready (rs:=[5]) (by kernel_rfl) (by simp) (AllReadyH.cons rfl (fun K hK=>?_) AllReadyH.nil)
 go_simp
 refine (por_is HR.out _ (by assumption)).mono ?_
 rintro e Wp4 ⟨rfl,hbp4⟩
 have x_d_p4:Box Wp4 (w.heap.size) ([.slice a1 ts.length c1,.slice a2 cs.length c2]):=Box.below x_d_p3 hbp4
 have x_f_p4:Box Wp4 (w.heap.size + 1) (V):=Box.below x_f_p3 hbp4
 have x_b_p4:Box Wp4 (w.heap.size + 2) ([.bool false]):=Box.below x_b_p3 hbp4
 have x_e_p4:Box Wp4 (w.heap.size + 3) ([.int .i64 0]):=Box.below x_e_p3 hbp4
 have Bp4:=below_thru Bp3 hbp4
 clear x_d_p3 x_f_p3 x_b_p3 x_e_p3 Bp3 hbp4
 refine hK.out _ _ (And.intro x_d_p4 (And.intro x_f_p4 (And.intro x_b_p4 x_e_p4))) (fun _=>?_);clear hK K
 refine takeH 6 6 (v:=?vp6_5) rfl (by rfl) (by kernel_rfl) (by kernel_rfl) (by kernel_rfl) (fun _ _ _ h=>h) (Or.inl ⟨by rfl,?_⟩) ((And.intro x_d_p4 (And.intro x_f_p4 (And.intro x_b_p4 x_e_p4)))) ?_
 rotate_left
 · intro wq hSq
   go_simp
   exact rfl
 try simp only [Act.put,qzA,qz0,qzS]
 refine wpAnyH_done (by kernel_rfl) ?_ _
 have hB1:=Bp4;have hs1:=hB1.size
 have x_d1:=x_d_p4
 have x_f1:=x_f_p4
 have x_b1:=x_b_p4
 have x_e1:=x_e_p4
 clear Bp4 x_d_p4 x_f_p4 x_b_p4 x_e_p4
 refine calm_n ?_
 by_cases h0:qr=0
 case neg =>
   have HX:=Lib.hid (FndF.bad HH.out HA.out HB.out HR.out h0)
   have d1:(qr != 0)=true:=by rw [bne_iff_ne];exact h0
   clear h0 HA HB HR HH CK FK
   have cb:=(x_b1).c 0 _ rfl;have fb:=(x_b1).f 0 _ rfl;have zb:=(x_b1).lt
   have ce:=(x_e1).c 0 _ rfl;have fe:=(x_e1).f 0 _ rfl;have ze:=(x_e1).lt
   gi_wp2
   have yb:=((x_b1).set 0 (.bool false)).other (a:=⟨w.heap.size + 3,0,none⟩) (by simp) (.int .i64 qr);have ye:=((x_e1).other (a:=⟨w.heap.size + 2,0,none⟩) (by simp) (.bool false)).set 0 (.int .i64 qr)
   have hcb:=yb.c 0 _ rfl;have hce:=ye.c 0 _ rfl
   refine ⟨.tuple #[.bool false,.int .i64 qr],?_,by rw [HX.out.1,HX.out.2],((hB1).setCell (p:=⟨w.heap.size + 2,0,none⟩) (by simp) _).setCell (p:=⟨w.heap.size + 3,0,none⟩) (by simp) _⟩
   simp [results,Tryz.f41,go_sem,hcb,hce]
 case pos =>
   obtain ⟨hc,hok⟩:=both_ok12 HA.out HB.out HR.out h0;subst h0;clear HA HB HR CK FK
   obtain ⟨KF,hKF⟩:∃ k,f.key=k:=⟨_,rfl⟩
   have MS:=fun W=>pmsg_is f hok W;rw [hV,hKF] at MS
   have HKB:=Lib.hid (key_byts f);have HC:=Lib.hid hc;have HO:=Lib.hid hok;rw [hKF] at HKB;clear hc hok
   have ltf:=(x_f1).lt;have ltd:=(x_d1).lt;have ltb:=(x_b1).lt;have lte:=(x_e1).lt
   gi_wp2_with (refine in_load_box rfl _ _ rfl x_f1 rfl Tryz.underlying37 rfl SV.out ?_)
   refine ⟨trivial,?_⟩
   refine (callsIn_wide.2 (MS _)).mono ?_
   rintro e w2 ⟨rfl,hb⟩
   have hB2:Below w.heap.size w w2:=below_thru hB1 hb
   have hs2:=hB2.size
   have x_d2:Box w2 (w.heap.size) ([.slice a1 ts.length c1,.slice a2 cs.length c2]):=Box.below x_d1 hb
   have x_f2:Box w2 (w.heap.size + 1) (V):=Box.below x_f1 hb
   have x_b2:Box w2 (w.heap.size + 2) ([.bool false]):=Box.below x_b1 hb
   have x_e2:Box w2 (w.heap.size + 3) ([.int .i64 0]):=Box.below x_e1 hb
   clear hB1 hs1 x_d1 x_f1 x_b1 x_e1
   clear hb ltf ltd ltb lte
   have ltf:=(x_f2).lt;have ltd:=(x_d2).lt;have ltb:=(x_b2).lt;have lte:=(x_e2).lt
   gi_wp2_with (refine in_load_box rfl _ _ rfl (Box.alloc x_d2 _) rfl Tryz.underlying62 rfl (size_id12 _ _) ?_)
   refine ⟨trivial,?_⟩
   refine (callsIn_wide.2 (pmint_is _ _ _)).mono ?_
   rintro e w9 ⟨rfl,rfl⟩
   gi_wp2
   have hN:Below w2.heap.size w2 ((w2.alloc (.cells #[.string (str KF)] 9)).alloc (.cells #[.slice a1 ts.length c1,.slice a2 cs.length c2] 62)):=(((Below.refl _ w2).alloc (Nat.le_refl _) _).alloc (by simp) _)
   have x_n:Box ((w2.alloc (.cells #[.string (str KF)] 9)).alloc (.cells #[.slice a1 ts.length c1,.slice a2 cs.length c2] 62)) (w2.heap.size + 1) [.slice a1 ts.length c1,.slice a2 cs.length c2]:=Box.newc rfl (by simp)
   have hsz:((w2.alloc (.cells #[.string (str KF)] 9)).alloc (.cells #[.slice a1 ts.length c1,.slice a2 cs.length c2] 62)).heap.size=w2.heap.size + 2:=by simp
   have x_w:Box ((w2.alloc (.cells #[.string (str KF)] 9)).alloc (.cells #[.slice a1 ts.length c1,.slice a2 cs.length c2] 62)) w2.heap.size [.string (str KF)]:=Box.alloc (Box.newc rfl rfl) _
   obtain ⟨W0,hW0⟩:∃ W0,((w2.alloc (.cells #[.string (str KF)] 9)).alloc (.cells #[.slice a1 ts.length c1,.slice a2 cs.length c2] 62))=W0:=⟨_,rfl⟩
   rw [hW0] at hN x_n hsz x_w ⊢
   clear hW0
   have K1:=Lib.hid (H1.out.below hB2);have K2:=Lib.hid (H2.out.below hB2)
   refine wpIn_rangeFunc_ownH (n:=3) rfl (by decide) (gf:=73) (lb:=#[.pointer (some ⟨w2.heap.size + 1,0,none⟩)]) rfl trivial (enters_of Tryz.func73 (by kernel_rfl) rfl)
     (minted_stops 2 (w2.heap.size + 1) w2 W0 K1 K2 hN x_n) KpB.t (KpB.b (by omega) (by omega)) (Below.refl _ _) (fun _=>rfl)
     (fun pre W=>Hid (∀ y ∈ pre,y.1.key ≠ f.key)∧Box W w2.heap.size [.string (str KF)]∧Below w2.heap.size w2 W∧W0.heap.size≤W.heap.size)
     (fun c pre W=>c=.ret∧Box W (w.heap.size + 2) [.bool b]∧Box W (w.heap.size + 3) [.int .i64 q]∧Below w.heap.size w W)
     (OwnFrom.and (ownFrom_pure _ _) (OwnFrom.and (box_own _ _ _) (OwnFrom.and (ownFrom_below (Nat.le_refl _) (by omega)) size_own)))
     (fun c=>OwnFrom.and (ownFrom_pure _ _) (OwnFrom.and (box_own _ _ _) (OwnFrom.and (box_own _ _ _) (ownFrom_below (Nat.le_refl _) (by omega)))))
     ⟨Lib.hid (fun y hy=>by cases hy),x_w,hN,Nat.le_refl _⟩
     (fun x a' W=>∃ Bx,Box W Bx (mcell x.1)∧a'={ tmps:=#[.agg #[.slice a1 ts.length c1,.slice a2 cs.length c2],.agg V.toArray,.pointer (some ⟨w.heap.size,0,none⟩),.pointer (some ⟨w.heap.size + 1,0,none⟩),.pointer (some ⟨w.heap.size + 2,0,none⟩),.pointer (some ⟨w.heap.size + 3,0,none⟩),.int .i64 0,.pointer (some ⟨w2.heap.size,0,none⟩),.pointer (some ⟨Bx,0,none⟩),.agg #[.slice a1 ts.length c1,.slice a2 cs.length c2],.int .i64 qa,.agg V.toArray,.int .i64 qb,.slice (some ⟨Wp2.heap.size,0,none⟩) 2 2,.int .i64 0,.int .i64 0,.bool false,undef,.agg V.toArray,.string (str KF),.agg #[.slice a1 ts.length c1,.slice a2 cs.length c2],.func (.func 73) #[] #[.pointer (some ⟨w2.heap.size + 1,0,none⟩)],.agg (mcell x.1).toArray,undef,undef,undef,undef,undef,undef,undef,undef,undef,undef],defers:=[] })
     (fun x a' _ X Y row hs hg hr=>by obtain ⟨Bx,h1,h2⟩:=hs;exact ⟨Bx,h1.own12 hg (fun r e=>(hr r e).2),h2⟩)
     ?assign ?body ?done ?stop
   case assign =>
     rintro l pre x W K ⟨hp,xw,hB,hz⟩ hK
     have SF:=Lib.hid (size_frm x.1);have LF:=Lib.hid (len_frm Frm.zero x.1);have OF:=Lib.hid (one_frm x.1)
     unfold mfV
     obtain ⟨F,hF⟩:∃ F,mcell x.1=F:=⟨_,rfl⟩
     rw [hF] at SF LF OF hK ⊢
     gi_wp2_with (refine in_store_box (cs:=F) rfl _ _ _ rfl (Box.newc (l:=mcell Frm.zero) rfl rfl) rfl rfl SF.out LF.out OF.out ?_;intro W1 hW1)
     have hN1:=stored_new hW1
     exact hK _ _ ((KeepsOthers.of_below hN1).from _) (KpB.of_below hN1 (by omega) (by omega)) ⟨hp,xw.below hN1,below_thru hB hN1,Nat.le_trans hz hN1.size⟩ ⟨W.heap.size,hW1.box,rfl⟩
   case body =>
     rintro l pre x a' W hl ⟨r,hr⟩ ⟨hp,xw,hB,hz⟩ ⟨Bx,xb,rfl⟩ hlt
     have SF:=Lib.hid (size_frm x.1)
     have xf:=Box.below x_f2 hB;have xrb:=Box.below x_b2 hB;have xre:=Box.below x_e2 hB;have hBw:=(hB2).trans (hB.mono hB2.size)
     have hlz:=hB.size
     by_cases he:x.1=f
     case pos =>
       have EQ:=fun W=>eqm_t he W
       have HX:=Lib.hid (HH.out.hit HC.out HO.out (he ▸ x.2))
       obtain ⟨F,hF⟩:∃ F,mcell x.1=F:=⟨_,rfl⟩
       rw [hF] at SF xb EQ ⊢;rw [hV] at EQ
       clear he hp xw
       have cb:=(xrb).c 0 _ rfl;have fb:=(xrb).f 0 _ rfl;have zb:=(xrb).lt
       have ce:=(xre).c 0 _ rfl;have fe:=(xre).f 0 _ rfl;have ze:=(xre).lt
       gi_wp2_with (first | (refine in_load_box rfl _ _ rfl xb rfl Tryz.underlying37 rfl SF.out ?_) | (refine in_load_box rfl _ _ rfl xf rfl Tryz.underlying37 rfl SV.out ?_))
       have yb:=((xrb).set 0 (.bool true)).other (a:=⟨w.heap.size + 3,0,none⟩) (by simp) (.int .i64 0);have ye:=((xre).other (a:=⟨w.heap.size + 2,0,none⟩) (by simp) (.bool true)).set 0 (.int .i64 0)
       exact ⟨((KeepsOthers.setCell _ _ _).trans (KeepsOthers.setCell _ _ _)).from _,rfl,by rw [← HX.out.1];exact yb,by rw [← HX.out.2];exact ye,(hBw.setCell (p:=⟨w.heap.size + 2,0,none⟩) (by simp) _).setCell (p:=⟨w.heap.size + 3,0,none⟩) (by simp) _⟩
     case neg =>
       have EQ:=fun W=>eqm_f he W;have hxo:=HC.out.zero_inv.2.1 x.1 x.2;have MX:=fun W=>pmsg_is x.1 hxo W
       have HT:=Lib.hid (show x.1.key=f.key→false=b∧(14:Int)=q from fun e=>HH.out.twice HC.out HO.out x.2 e he)
       have HP:=Lib.hid (show x.1.key ≠ f.key→∀ y ∈ pre ++ [x],y.1.key ≠ f.key from fun h y hy=>by
         rcases List.mem_append.1 hy with g | g
         · exact hp.out y g
         · rw [List.mem_singleton.1 g];exact h)
       have HKX:=Lib.hid (key_byts x.1)
       rw [hKF] at HT
       obtain ⟨KX,hKX⟩:∃ k,x.1.key=k:=⟨_,rfl⟩
       rw [hKX] at HT MX HKX;rw [hKX,hKF] at HP
       obtain ⟨F,hF⟩:∃ F,mcell x.1=F:=⟨_,rfl⟩
       rw [hF] at SF xb EQ MX ⊢;rw [hV] at EQ
       clear he hxo hp
       gi_wp2_with (first | (refine in_load_box rfl _ _ rfl xb rfl Tryz.underlying37 rfl SF.out ?_) | (refine in_load_box rfl _ _ rfl xf rfl Tryz.underlying37 rfl SV.out ?_))
       have x_m50:=xb;have x_k50:=xw;have hB50:=Below.refl W.heap.size W;have hs50:=hB50.size;clear xb xw
       clear EQ
       refine region_held_calm (S:=fun W=>Box W (Bx) (F)∧Box W (w2.heap.size) ([.string (str KF)])) (Wd.round l) rfl (by kernel_rfl) (And.intro (x_m50).drew (x_k50).drew) (fun _=>?_)
       refine F_drew (F:=fun W=>wpAnyH _ _ _ _ _ _ _ _ W) ?_
       intro Wq0 hbq0
       clear hs50
       have x_m_q0:Box Wq0 (Bx) (F):=Box.below x_m50 hbq0
       have x_k_q0:Box Wq0 (w2.heap.size) ([.string (str KF)]):=Box.below x_k50 hbq0
       have Bq0:=below_thru hB50 hbq0
       clear x_m50 x_k50 hB50 hbq0
       refine takeH 2 28 (v:=?vq2_1) rfl (by rfl) (by kernel_rfl) (by kernel_rfl) (by kernel_rfl) (fun _ _ _ h=>h) (Or.inl ⟨by rfl,?_⟩) ((And.intro x_m_q0 x_k_q0)) ?_
       rotate_left
       · intro wq hSq
         have cq:=(hSq.2).c 0 _ rfl
         have zq:=lt_of_cell cq
         go_simp
         exact rfl
       try simp only [Act.put,qzA,qz0,qzS]
       refine takeH 0 26 (v:=.agg (F).toArray) rfl (by rfl) (by kernel_rfl) (by kernel_rfl) (by kernel_rfl) (fun _ _ _ h=>h) (yieldsIf_load_mid (by rfl) _ _ rfl _ _ rfl (F) _ (fun wq hq=>Box.range (hq.1)) Tryz.underlying37 rfl SF.out) ((And.intro x_m_q0 x_k_q0)) ?_
       try simp only [Act.put,qzA,qz0,qzS]
       refine wpAnyH_ready (rs:=[1]) (by kernel_rfl) (by simp) (AllReadyH.cons rfl (fun K hK=>?_) AllReadyH.nil)
       go_simp
       refine (MX _).mono ?_
       rintro e Wq2 ⟨rfl,hbq2⟩
       have x_m_q2:Box Wq2 (Bx) (F):=Box.below x_m_q0 hbq2
       have x_k_q2:Box Wq2 (w2.heap.size) ([.string (str KF)]):=Box.below x_k_q0 hbq2
       have Bq2:=below_thru Bq0 hbq2
       clear x_m_q0 x_k_q0 Bq0 hbq2
       refine hK.out _ _ (And.intro x_m_q2 x_k_q2) (fun _=>?_);clear hK K
       refine takeH 3 29 (v:=?vq3_3) rfl (by rfl) (by kernel_rfl) (by kernel_rfl) (by kernel_rfl) (fun _ _ _ h=>h) (Or.inl ⟨by rfl,?_⟩) ((And.intro x_m_q2 x_k_q2)) ?_
       rotate_left
       · intro wq hSq
         go_simp
         exact rfl
       try simp only [Act.put,qzA,qz0,qzS]
       refine wpAnyH_done (by kernel_rfl) ?_ _
       have hB51:=Bq2;have hs51:=hB51.size
       have x_m51:=x_m_q2
       have x_k51:=x_k_q2
       clear Bq2 x_m_q2 x_k_q2
       refine calm_n ?_
       have hb9:=hB51;clear x_m51  hs51
       have xw9:=x_k51
       have hB9:=below_thru hB hb9;have hBw9:=below_thru hBw hb9;have hz9:=Nat.le_trans hz hb9.size;have xrb9:=Box.below xrb hb9;have xre9:=Box.below xre hb9;clear hBw xrb xre xf
       by_cases hk:KX=KF
       case pos =>
         have hse:=str_beq HKX.out HKB.out (b:=true) ⟨fun _=>hk,fun _=>rfl⟩
         have HX:=Lib.hid (HT.out hk)
         clear hk HT HP
         rw [hse];clear hse
         have cb:=xrb9.c 0 _ rfl;have fb:=xrb9.f 0 _ rfl;have zb:=xrb9.lt;have ce:=xre9.c 0 _ rfl;have fe:=xre9.f 0 _ rfl;have ze:=xre9.lt
         gi_wp2
         have yb:=((xrb9).set 0 (.bool false)).other (a:=⟨w.heap.size + 3,0,none⟩) (by simp) (.int .i64 14);have ye:=((xre9).other (a:=⟨w.heap.size + 2,0,none⟩) (by simp) (.bool false)).set 0 (.int .i64 14)
         exact ⟨((KeepsOthers.of_below hb9).trans ((KeepsOthers.setCell _ _ _).trans (KeepsOthers.setCell _ _ _))).from _,rfl,by rw [← HX.out.1];exact yb,by rw [← HX.out.2];exact ye,(hBw9.setCell (p:=⟨w.heap.size + 2,0,none⟩) (by simp) _).setCell (p:=⟨w.heap.size + 3,0,none⟩) (by simp) _⟩
       case neg =>
         have hse:=str_beq HKX.out HKB.out (b:=false) ⟨fun g=>(Bool.false_ne_true g).elim,fun g=>absurd g hk⟩
         have HX:=Lib.hid (HP.out hk)
         clear hk HT HP
         rw [hse];clear hse
         gi_wp2
         exact ⟨(KeepsOthers.of_below hb9).from _,KpB.of_below hb9 (by omega) (by omega),Lib.hid (by rw [hKF];exact HX.out),xw9,hB9,hz9⟩
   case stop =>
     rintro D c pre W hD hpre ⟨rfl,xrb,xre,hB⟩ hK
     gi_wp2
     refine ⟨by simp,.inl ⟨_,_,rfl,run_takeDeferred hK,?_⟩⟩
     have hcb:=cell_kept (xrb.c 0 _ rfl) (grownBy_putObj' _ D (.deferred none)) (fun r e=>by cases e;exact ⟨_,hK,rfl⟩)
     have hce:=cell_kept (xre.c 0 _ rfl) (grownBy_putObj' _ D (.deferred none)) (fun r e=>by cases e;exact ⟨_,hK,rfl⟩)
     refine ⟨.tuple #[.bool b,.int .i64 q],?_,rfl,hB.trans (belowK_b (w:=w) (Nat.le_refl _) W D _ _ (by omega) hK rfl rfl)⟩
     simp [results,Tryz.f41,go_sem,hcb,hce]
   case done =>
     rintro D ys W3 hD hys ⟨hp,xw,hB,hz⟩ hK
     have HN:=Lib.hid (HH.out.none HC.out HO.out (fun m hm=>by
       rw [← hys] at hm
       obtain ⟨y,hy,rfl⟩:=List.mem_map.1 hm
       exact hp.out y hy))
     have hl100:=HC.out.zero_inv.1
     obtain ⟨n,hn⟩:∃ n,ts.length + cs.length=n:=⟨_,rfl⟩
     have SZ:=fun (W:World) (h:IsD W (.agg #[.slice a1 ts.length c1,.slice a2 cs.length c2]) ts cs)=>psize_is W h hn (by omega)
     rw [hn] at HN hl100
     have xd:=Box.below x_d2 hB;have xrb:=Box.below x_b2 hB;have xre:=Box.below x_e2 hB;have hBw:=(hB2).trans (hB.mono hB2.size);have hDl:=(Array.getElem?_eq_some_iff.1 hK).1
     clear hp hys xw hn x_d2 x_f2 x_b2 x_e2
     gi_wp2_with (refine in_load_box rfl _ _ rfl xd rfl Tryz.underlying62 rfl (size_id12 _ _) ?_)
     refine ⟨trivial,?_⟩
     refine (callsIn_wide.2 (SZ _ (HD.out.below hBw))).mono ?_
     rintro e W4 ⟨rfl,hb⟩
     have xrb:=xrb.below hb;have xre:=xre.below hb;have hBw:=below_thru hBw hb;have hK:=(hb.block D hDl).trans hK
     clear hb xd SZ
     by_cases h100:n=100
     case pos =>
       have HX:=Lib.hid (show false=b∧(4:Int)=q from ⟨HN.out.1,by rcases HN.out.2 with g | g <;> omega⟩)
       subst h100;clear HN
       have cb:=xrb.c 0 _ rfl;have fb:=xrb.f 0 _ rfl;have zb:=xrb.lt;have ce:=xre.c 0 _ rfl;have fe:=xre.f 0 _ rfl;have ze:=xre.lt
       gi_wp2
       have yb:=((xrb).set 0 (.bool false)).other (a:=⟨w.heap.size + 3,0,none⟩) (by simp) (.int .i64 4);have ye:=((xre).other (a:=⟨w.heap.size + 2,0,none⟩) (by simp) (.bool false)).set 0 (.int .i64 4)
       have hK2:=((KeepsOthers.setCell W4 ⟨w.heap.size + 2,0,none⟩ (.bool false)).trans (KeepsOthers.setCell _ ⟨w.heap.size + 3,0,none⟩ (.int .i64 4))).same D _ hK rfl
       have hB9:=(hBw.setCell (p:=⟨w.heap.size + 2,0,none⟩) (by simp) (.bool false)).setCell (p:=⟨w.heap.size + 3,0,none⟩) (by simp) (.int .i64 4)
       refine ⟨by simp,.inl ⟨_,_,rfl,run_takeDeferred hK2,?_⟩⟩
       have hcb:=cell_kept (yb.c 0 _ rfl) (grownBy_putObj' _ D (.deferred none)) (fun r e=>by cases e;exact ⟨_,hK2,rfl⟩)
       have hce:=cell_kept (ye.c 0 _ rfl) (grownBy_putObj' _ D (.deferred none)) (fun r e=>by cases e;exact ⟨_,hK2,rfl⟩)
       refine ⟨.tuple #[.bool false,.int .i64 4],?_,by rw [HX.out.1,HX.out.2],hB9.trans (belowK_b (w:=w) (Nat.le_refl _) _ D _ _ (by omega) hK2 rfl rfl)⟩
       simp [results,Tryz.f41,go_sem,hcb,hce]
     case neg =>
       have HX:=Lib.hid (show false=b∧(0:Int)=q from ⟨HN.out.1,by rcases HN.out.2 with g | g <;> omega⟩)
       have d9:((n:Int) == 100)=false:=by rw [beq_eq_false_iff_ne];omega
       clear HN h100
       have cb:=xrb.c 0 _ rfl;have fb:=xrb.f 0 _ rfl;have zb:=xrb.lt;have ce:=xre.c 0 _ rfl;have fe:=xre.f 0 _ rfl;have ze:=xre.lt
       gi_wp2
       have yb:=((xrb).set 0 (.bool false)).other (a:=⟨w.heap.size + 3,0,none⟩) (by simp) (.int .i64 0);have ye:=((xre).other (a:=⟨w.heap.size + 2,0,none⟩) (by simp) (.bool false)).set 0 (.int .i64 0)
       have hK2:=((KeepsOthers.setCell W4 ⟨w.heap.size + 2,0,none⟩ (.bool false)).trans (KeepsOthers.setCell _ ⟨w.heap.size + 3,0,none⟩ (.int .i64 0))).same D _ hK rfl
       have hB9:=(hBw.setCell (p:=⟨w.heap.size + 2,0,none⟩) (by simp) (.bool false)).setCell (p:=⟨w.heap.size + 3,0,none⟩) (by simp) (.int .i64 0)
       refine ⟨by simp,.inl ⟨_,_,rfl,run_takeDeferred hK2,?_⟩⟩
       have hcb:=cell_kept (yb.c 0 _ rfl) (grownBy_putObj' _ D (.deferred none)) (fun r e=>by cases e;exact ⟨_,hK2,rfl⟩)
       have hce:=cell_kept (ye.c 0 _ rfl) (grownBy_putObj' _ D (.deferred none)) (fun r e=>by cases e;exact ⟨_,hK2,rfl⟩)
       refine ⟨.tuple #[.bool false,.int .i64 0],?_,by rw [HX.out.1,HX.out.2],hB9.trans (belowK_b (w:=w) (Nat.le_refl _) _ D _ _ (by omega) hK2 rfl rfl)⟩
       simp [results,Tryz.f41,go_sem,hcb,hce]
set_option maxRecDepth 100000 in
set_option maxHeartbeats 6400000 in
theorem pacp_x {v:Value} {ts:List Tk} {cs:List Cmd} (f:Frm) (hl:ts.length + cs.length≤180) {b:Bool} {q:Int} (h:AcpD ts cs f b q) (w:World) (h1:IsD w v ts cs):CallsIn Fence.wide 3 Tryz.prog 16 #[v,.agg (mcell f).toArray] w fun e w'=>e=.returned (.tuple #[.bool b,.int .i64 q])∧Below w.heap.size w w':=by
 obtain ⟨qa,hqa⟩:=ChkD.ex ts cs;obtain ⟨qb,hqb⟩:=frm_err f;obtain ⟨qr,hqr⟩:=or_err qa qb
 have CK:=fun (W:World) (u:Value) (h:IsD W u ts cs)=>pchk_is W h hl hqa;have FK:=fun W=>chk_is f (Lib.hid hqb) W;have HR:=Lib.hid hqr;have HA:=Lib.hid hqa;have HB:=Lib.hid hqb;have HH:=Lib.hid h;have HD:=Lib.hid h1
 obtain ⟨v1,v2,rfl,g1,g2⟩:=id h1
 obtain ⟨a1,c1,rfl,hr1⟩:=id g1;obtain ⟨a2,c2,rfl,hr2⟩:=id g2
 have m1:=hr1.most;have r1:=hr1.room;have m2:=hr2.most;have r2:=hr2.room;have H1:=Lib.hid g1;have H2:=Lib.hid g2
 clear hr1 hr2 g1 g2 h1
 have SV:=Lib.hid (size_frm f)
 clear hqa hqb hqr h hl
 obtain ⟨V,hV⟩:∃ X,mcell f=X:=⟨_,rfl⟩;rw [hV] at SV FK ⊢
 refine callsIn_of_wp_marks Tryz.func16 rfl trivial ?_ rfl
 simp only [Tryz.ntmps16,List.size_toArray,List.length_cons,List.length_nil,Nat.reduceAdd,Nat.reduceSub,Array.replicate_succ,Array.replicate_zero,List.push_toArray,List.append_toArray,List.nil_append,List.cons_append]
 gi_wp2
 refine F_gen (F:=fun W=>Code.wpIn _ _ _ _ _ _ W) (J:=fun W=>Box W (w.heap.size) ([.slice a1 ts.length c1,.slice a2 cs.length c2])∧Box W (w.heap.size + 1) (V)∧Box W (w.heap.size + 2) ([.bool false])∧Box W (w.heap.size + 3) ([.int .i64 0])∧Below w.heap.size w W) (And.intro (Box.alloc (Box.alloc (Box.alloc (Box.newc (l:=[.slice a1 ts.length c1,.slice a2 cs.length c2]) rfl rfl) _) _) _) (And.intro (Box.alloc (Box.alloc (Box.newc (l:=V) rfl (by simp)) _) _) (And.intro (Box.alloc (Box.newc (l:=[.bool false]) rfl (by simp)) _) (And.intro (Box.newc (l:=[.int .i64 0]) rfl (by simp)) (((((Below.refl _ w).alloc (Nat.le_refl _) _).alloc (by simp) _).alloc (by simp;omega) _).alloc (by simp;omega) _))))) ?_
 intro w0 ⟨x_d0,x_f0,x_b0,x_e0,hB0⟩
 have hs0:=hB0.size
 refine region_held_calm (S:=fun W=>Box W (w.heap.size) ([.slice a1 ts.length c1,.slice a2 cs.length c2])∧Box W (w.heap.size + 1) (V)∧Box W (w.heap.size + 2) ([.bool false])∧Box W (w.heap.size + 3) ([.int .i64 0])) Wd.wide rfl (by kernel_rfl) (And.intro (x_d0).drew (And.intro (x_f0).drew (And.intro (x_b0).drew (x_e0).drew))) (fun _=>?_)
 refine F_drew (F:=fun W=>wpAnyH _ _ _ _ _ _ _ _ W) ?_
 intro Wp0 hbp0
 clear hs0
 have x_d_p0:Box Wp0 (w.heap.size) ([.slice a1 ts.length c1,.slice a2 cs.length c2]):=Box.below x_d0 hbp0
 have x_f_p0:Box Wp0 (w.heap.size + 1) (V):=Box.below x_f0 hbp0
 have x_b_p0:Box Wp0 (w.heap.size + 2) ([.bool false]):=Box.below x_b0 hbp0
 have x_e_p0:Box Wp0 (w.heap.size + 3) ([.int .i64 0]):=Box.below x_e0 hbp0
 have Bp0:=below_thru hB0 hbp0
 clear x_d0 x_f0 x_b0 x_e0 hB0 hbp0
 refine takeH 0 8 (v:=.agg ([.slice a1 ts.length c1,.slice a2 cs.length c2]).toArray) rfl (by rfl) (by kernel_rfl) (by kernel_rfl) (by kernel_rfl) (fun _ _ _ h=>h) (yieldsIf_load_mid (by rfl) _ _ rfl _ _ rfl ([.slice a1 ts.length c1,.slice a2 cs.length c2]) _ (fun wq hq=>Box.range (hq.1)) Tryz.underlying62 rfl (size_id12 _ _)) ((And.intro x_d_p0 (And.intro x_f_p0 (And.intro x_b_p0 x_e_p0)))) ?_
 try simp only [Act.put,qzA,qz0,qzS]
 refine takeH 2 10 (v:=.agg (V).toArray) rfl (by rfl) (by kernel_rfl) (by kernel_rfl) (by kernel_rfl) (fun _ _ _ h=>h) (yieldsIf_load_mid (by rfl) _ _ rfl _ _ rfl (V) _ (fun wq hq=>Box.range (hq.2.1)) Tryz.underlying37 rfl SV.out) ((And.intro x_d_p0 (And.intro x_f_p0 (And.intro x_b_p0 x_e_p0)))) ?_
 try simp only [Act.put,qzA,qz0,qzS]
 refine wpAnyH_ready (rs:=[1]) (by kernel_rfl) (by simp) (AllReadyH.cons rfl (fun K hK=>?_) AllReadyH.nil)
 go_simp
 refine (CK _ _ (HD.out.below Bp0)).mono ?_
 rintro e Wp1 ⟨rfl,hbp1⟩
 have x_d_p1:Box Wp1 (w.heap.size) ([.slice a1 ts.length c1,.slice a2 cs.length c2]):=Box.below x_d_p0 hbp1
 have x_f_p1:Box Wp1 (w.heap.size + 1) (V):=Box.below x_f_p0 hbp1
 have x_b_p1:Box Wp1 (w.heap.size + 2) ([.bool false]):=Box.below x_b_p0 hbp1
 have x_e_p1:Box Wp1 (w.heap.size + 3) ([.int .i64 0]):=Box.below x_e_p0 hbp1
 have Bp1:=below_thru Bp0 hbp1
 clear x_d_p0 x_f_p0 x_b_p0 x_e_p0 Bp0 hbp1
 refine hK.out _ _ (And.intro x_d_p1 (And.intro x_f_p1 (And.intro x_b_p1 x_e_p1))) (fun _=>?_);clear hK K
 refine wpAnyH_ready (rs:=[3]) (by kernel_rfl) (by simp) (AllReadyH.cons rfl (fun K hK=>?_) AllReadyH.nil)
 go_simp
 refine (FK _).mono ?_
 rintro e Wp2 ⟨rfl,hbp2⟩
 have x_d_p2:Box Wp2 (w.heap.size) ([.slice a1 ts.length c1,.slice a2 cs.length c2]):=Box.below x_d_p1 hbp2
 have x_f_p2:Box Wp2 (w.heap.size + 1) (V):=Box.below x_f_p1 hbp2
 have x_b_p2:Box Wp2 (w.heap.size + 2) ([.bool false]):=Box.below x_b_p1 hbp2
 have x_e_p2:Box Wp2 (w.heap.size + 3) ([.int .i64 0]):=Box.below x_e_p1 hbp2
 have Bp2:=below_thru Bp1 hbp2
 clear x_d_p1 x_f_p1 x_b_p1 x_e_p1 Bp1 hbp2
 refine hK.out _ _ (And.intro x_d_p2 (And.intro x_f_p2 (And.intro x_b_p2 x_e_p2))) (fun _=>?_);clear hK K
 refine wpAnyH_ready (rs:=[4]) (by kernel_rfl) (by simp) (AllReadyH.cons rfl (fun K hK=>?_) AllReadyH.nil)
 go_simp
 refine hK.out _ _ (And.intro (Box.alloc x_d_p2 _) (And.intro (Box.alloc x_f_p2 _) (And.intro (Box.alloc x_b_p2 _) (Box.alloc x_e_p2 _)))) (fun _=>?_);clear hK K
 refine F_gen (F:=fun W=>wpAnyH _ _ _ _ _ _ _ _ W) (J:=fun W=>Box W Wp2.heap.size [.int .i64 qa,.int .i64 qb]∧Below Wp2.heap.size Wp2 W) (And.intro (Box.newc rfl rfl) ((Below.refl _ _).alloc (Nat.le_refl _) _)) ?_
 intro Wp3 ⟨na_ob_p3,hbp3⟩
 have x_d_p3:Box Wp3 (w.heap.size) ([.slice a1 ts.length c1,.slice a2 cs.length c2]):=Box.below x_d_p2 hbp3
 have x_f_p3:Box Wp3 (w.heap.size + 1) (V):=Box.below x_f_p2 hbp3
 have x_b_p3:Box Wp3 (w.heap.size + 2) ([.bool false]):=Box.below x_b_p2 hbp3
 have x_e_p3:Box Wp3 (w.heap.size + 3) ([.int .i64 0]):=Box.below x_e_p2 hbp3
 have Bp3:=below_thru Bp2 hbp3
 clear x_d_p2 x_f_p2 x_b_p2 x_e_p2 Bp2 hbp3
 refine wpAnyH_ready (rs:=[5]) (by kernel_rfl) (by simp) (AllReadyH.cons rfl (fun K hK=>?_) AllReadyH.nil)
 go_simp
 refine (por_is HR.out _ (by assumption)).mono ?_
 rintro e Wp4 ⟨rfl,hbp4⟩
 have x_d_p4:Box Wp4 (w.heap.size) ([.slice a1 ts.length c1,.slice a2 cs.length c2]):=Box.below x_d_p3 hbp4
 have x_f_p4:Box Wp4 (w.heap.size + 1) (V):=Box.below x_f_p3 hbp4
 have x_b_p4:Box Wp4 (w.heap.size + 2) ([.bool false]):=Box.below x_b_p3 hbp4
 have x_e_p4:Box Wp4 (w.heap.size + 3) ([.int .i64 0]):=Box.below x_e_p3 hbp4
 have Bp4:=below_thru Bp3 hbp4
 clear x_d_p3 x_f_p3 x_b_p3 x_e_p3 Bp3 hbp4
 refine hK.out _ _ (And.intro x_d_p4 (And.intro x_f_p4 (And.intro x_b_p4 x_e_p4))) (fun _=>?_);clear hK K
 refine takeH 6 6 (v:=?vp6_5) rfl (by rfl) (by kernel_rfl) (by kernel_rfl) (by kernel_rfl) (fun _ _ _ h=>h) (Or.inl ⟨by rfl,?_⟩) ((And.intro x_d_p4 (And.intro x_f_p4 (And.intro x_b_p4 x_e_p4)))) ?_
 rotate_left
 · intro wq hSq
   go_simp
   exact rfl
 try simp only [Act.put,qzA,qz0,qzS]
 refine wpAnyH_done (by kernel_rfl) ?_ _
 have hB1:=Bp4;have hs1:=hB1.size
 have x_d1:=x_d_p4
 have x_f1:=x_f_p4
 have x_b1:=x_b_p4
 have x_e1:=x_e_p4
 clear Bp4 x_d_p4 x_f_p4 x_b_p4 x_e_p4
 refine calm_n ?_
 by_cases h0:qr=0
 case neg =>
   have HX:=Lib.hid (AcpD.bad HH.out HA.out HB.out HR.out h0)
   have d1:(qr != 0)=true:=by rw [bne_iff_ne];exact h0
   clear h0 HA HB HR HH CK FK
   have cb:=(x_b1).c 0 _ rfl;have fb:=(x_b1).f 0 _ rfl;have zb:=(x_b1).lt
   have ce:=(x_e1).c 0 _ rfl;have fe:=(x_e1).f 0 _ rfl;have ze:=(x_e1).lt
   gi_wp2
   have yb:=((x_b1).set 0 (.bool false)).other (a:=⟨w.heap.size + 3,0,none⟩) (by simp) (.int .i64 qr);have ye:=((x_e1).other (a:=⟨w.heap.size + 2,0,none⟩) (by simp) (.bool false)).set 0 (.int .i64 qr)
   have hcb:=yb.c 0 _ rfl;have hce:=ye.c 0 _ rfl
   refine ⟨.tuple #[.bool false,.int .i64 qr],?_,by rw [HX.out.1,HX.out.2],((hB1).setCell (p:=⟨w.heap.size + 2,0,none⟩) (by simp) _).setCell (p:=⟨w.heap.size + 3,0,none⟩) (by simp) _⟩
   simp [results,Tryz.f16,go_sem,hcb,hce]
 case pos =>
   obtain ⟨hc,hok⟩:=both_ok12 HA.out HB.out HR.out h0;subst h0;clear HA HB HR CK FK
   have HC:=Lib.hid hc;have HO:=Lib.hid hok;clear hc hok
   have c37:=mcell_ep f;have c38:=mcell_co f;have HFL:=Lib.hid (flat_cells f);rw [hV] at c37 c38 HFL
   have SG:=Lib.hid (size_frm f.flat)
   have ca:=(x_f1).c 37 _ c37;have fa:=(x_f1).f 37 _ c37;have cb2:=(x_f1).c 38 _ c38;have fb2:=(x_f1).f 38 _ c38;have zf:=(x_f1).lt;clear c37 c38
   gi_wp2_with (refine in_load_box rfl _ _ rfl (Box.other (Box.other x_d1 (a:=⟨w.heap.size + 1,37,none⟩) (by simp) (.int .u16 0)) (a:=⟨w.heap.size + 1,38,none⟩) (by simp) (.int .u32 0)) rfl Tryz.underlying62 rfl (size_id12 _ _) ?_)
   have x_d9:=(Box.other (Box.other x_d1 (a:=⟨w.heap.size + 1,37,none⟩) (by simp) (.int .u16 0)) (a:=⟨w.heap.size + 1,38,none⟩) (by simp) (.int .u32 0));have x_b9:=(Box.other (Box.other x_b1 (a:=⟨w.heap.size + 1,37,none⟩) (by simp) (.int .u16 0)) (a:=⟨w.heap.size + 1,38,none⟩) (by simp) (.int .u32 0));have x_e9:=(Box.other (Box.other x_e1 (a:=⟨w.heap.size + 1,37,none⟩) (by simp) (.int .u16 0)) (a:=⟨w.heap.size + 1,38,none⟩) (by simp) (.int .u32 0))
   have x_f9:=((x_f1).set 37 (.int .u16 0)).set 38 (.int .u32 0);rw [HFL.out] at x_f9
   have hB9:=((hB1).setCell (p:=⟨w.heap.size + 1,37,none⟩) (by simp) (.int .u16 0)).setCell (p:=⟨w.heap.size + 1,38,none⟩) (by simp) (.int .u32 0)
   clear ca fa cb2 fb2 zf HFL x_d1 x_f1 x_b1 x_e1 hB1 hs1
   obtain ⟨G,hG⟩:∃ X,mcell f.flat=X:=⟨_,rfl⟩;rw [hG] at x_f9 SG
   obtain ⟨w9,hw9⟩:∃ w9,(Wp4.setCell ⟨w.heap.size + 1,37,none⟩ (.int .u16 0)).setCell ⟨w.heap.size + 1,38,none⟩ (.int .u32 0)=w9:=⟨_,rfl⟩
   rw [hw9] at x_d9 x_b9 x_e9 x_f9 hB9 ⊢;clear hw9
   have hs9:=hB9.size;have ltf:=x_f9.lt;have ltd:=x_d9.lt;have ltb:=x_b9.lt;have lte:=x_e9.lt
   refine ⟨trivial,?_⟩
   refine (callsIn_wide.2 (pmint_is _ _ _)).mono ?_
   rintro e w9 ⟨rfl,rfl⟩
   gi_wp2
   have hN:Below w9.heap.size w9 (w9.alloc (.cells #[.slice a1 ts.length c1,.slice a2 cs.length c2] 62)):=((Below.refl _ w9).alloc (Nat.le_refl _) _)
   have x_n:Box (w9.alloc (.cells #[.slice a1 ts.length c1,.slice a2 cs.length c2] 62)) (w9.heap.size) [.slice a1 ts.length c1,.slice a2 cs.length c2]:=Box.newc rfl (by simp)
   have hsz:(w9.alloc (.cells #[.slice a1 ts.length c1,.slice a2 cs.length c2] 62)).heap.size=w9.heap.size + 1:=by simp
   obtain ⟨W0,hW0⟩:∃ W0,(w9.alloc (.cells #[.slice a1 ts.length c1,.slice a2 cs.length c2] 62))=W0:=⟨_,rfl⟩
   rw [hW0] at hN x_n hsz ⊢
   clear hW0
   have K1:=Lib.hid (H1.out.below hB9);have K2:=Lib.hid (H2.out.below hB9)
   refine wpIn_rangeFunc_ownH (n:=3) rfl (by decide) (gf:=73) (lb:=#[.pointer (some ⟨w9.heap.size,0,none⟩)]) rfl trivial (enters_of Tryz.func73 (by kernel_rfl) rfl)
     (minted_stops 2 (w9.heap.size) w9 W0 K1 K2 hN x_n) KpB.t (KpB.b (by omega) (by omega)) (Below.refl _ _) (fun _=>rfl)
     (fun pre W=>Hid (∀ y ∈ pre,y.1 ≠ f.flat)∧Below w9.heap.size w9 W∧W0.heap.size≤W.heap.size)
     (fun c pre W=>c=.ret∧Box W (w.heap.size + 2) [.bool b]∧Box W (w.heap.size + 3) [.int .i64 q]∧Below w.heap.size w W)
     (OwnFrom.and (ownFrom_pure _ _) (OwnFrom.and (ownFrom_below (Nat.le_refl _) (by omega)) size_own))
     (fun c=>OwnFrom.and (ownFrom_pure _ _) (OwnFrom.and (box_own _ _ _) (OwnFrom.and (box_own _ _ _) (ownFrom_below (Nat.le_refl _) (by omega)))))
     ⟨Lib.hid (fun y hy=>by cases hy),hN,Nat.le_refl _⟩
     (fun x a' W=>∃ Bx,Box W Bx (mcell x.1)∧a'={ tmps:=#[.agg #[.slice a1 ts.length c1,.slice a2 cs.length c2],.agg V.toArray,.pointer (some ⟨w.heap.size,0,none⟩),.pointer (some ⟨w.heap.size + 1,0,none⟩),.pointer (some ⟨w.heap.size + 2,0,none⟩),.pointer (some ⟨w.heap.size + 3,0,none⟩),.int .i64 0,.pointer (some ⟨Bx,0,none⟩),.agg #[.slice a1 ts.length c1,.slice a2 cs.length c2],.int .i64 qa,.agg V.toArray,.int .i64 qb,.slice (some ⟨Wp2.heap.size,0,none⟩) 2 2,.int .i64 0,.int .i64 0,.bool false,undef,.pointer (some ⟨w.heap.size + 1,1,none⟩),.pointer (some ⟨w.heap.size + 1,37,none⟩),.pointer (some ⟨w.heap.size + 1,1,none⟩),.pointer (some ⟨w.heap.size + 1,38,none⟩),.agg #[.slice a1 ts.length c1,.slice a2 cs.length c2],.func (.func 73) #[] #[.pointer (some ⟨w9.heap.size,0,none⟩)],.agg (mcell x.1).toArray,undef,undef,undef],defers:=[] })
     (fun x a' _ X Y row hs hg hr=>by obtain ⟨Bx,h1,h2⟩:=hs;exact ⟨Bx,h1.own12 hg (fun r e=>(hr r e).2),h2⟩)
     ?assign ?body ?done ?stop
   case assign =>
     rintro l pre x W K ⟨hp,hB,hz⟩ hK
     have SF:=Lib.hid (size_frm x.1);have LF:=Lib.hid (len_frm Frm.zero x.1);have OF:=Lib.hid (one_frm x.1)
     unfold mfV
     obtain ⟨F,hF⟩:∃ F,mcell x.1=F:=⟨_,rfl⟩
     rw [hF] at SF LF OF hK ⊢
     gi_wp2_with (refine in_store_box (cs:=F) rfl _ _ _ rfl (Box.newc (l:=mcell Frm.zero) rfl rfl) rfl rfl SF.out LF.out OF.out ?_;intro W1 hW1)
     have hN1:=stored_new hW1
     exact hK _ _ ((KeepsOthers.of_below hN1).from _) (KpB.of_below hN1 (by omega) (by omega)) ⟨hp,below_thru hB hN1,Nat.le_trans hz hN1.size⟩ ⟨W.heap.size,hW1.box,rfl⟩
   case body =>
     rintro l pre x a' W hl ⟨r,hr⟩ ⟨hp,hB,hz⟩ ⟨Bx,xb,rfl⟩ hlt
     have SF:=Lib.hid (size_frm x.1)
     have xf:=Box.below x_f9 hB;have xrb:=Box.below x_b9 hB;have xre:=Box.below x_e9 hB;have hBw:=(hB9).trans (hB.mono hB9.size)
     by_cases he:x.1=f.flat
     case pos =>
       have EQ:=fun W=>eqm_t he W
       have HX:=Lib.hid (HH.out.hit HC.out HO.out (he ▸ x.2))
       obtain ⟨F,hF⟩:∃ F,mcell x.1=F:=⟨_,rfl⟩
       rw [hF] at SF xb EQ ⊢;rw [hG] at EQ
       clear he hp
       have cb:=(xrb).c 0 _ rfl;have fb:=(xrb).f 0 _ rfl;have zb:=(xrb).lt
       have ce:=(xre).c 0 _ rfl;have fe:=(xre).f 0 _ rfl;have ze:=(xre).lt
       gi_wp2_with (first | (refine in_load_box rfl _ _ rfl xb rfl Tryz.underlying37 rfl SF.out ?_) | (refine in_load_box rfl _ _ rfl xf rfl Tryz.underlying37 rfl SG.out ?_))
       have yb:=((xrb).set 0 (.bool true)).other (a:=⟨w.heap.size + 3,0,none⟩) (by simp) (.int .i64 0);have ye:=((xre).other (a:=⟨w.heap.size + 2,0,none⟩) (by simp) (.bool true)).set 0 (.int .i64 0)
       exact ⟨((KeepsOthers.setCell _ _ _).trans (KeepsOthers.setCell _ _ _)).from _,rfl,by rw [← HX.out.1];exact yb,by rw [← HX.out.2];exact ye,(hBw.setCell (p:=⟨w.heap.size + 2,0,none⟩) (by simp) _).setCell (p:=⟨w.heap.size + 3,0,none⟩) (by simp) _⟩
     case neg =>
       have EQ:=fun W=>eqm_f he W
       have HP:=Lib.hid (show ∀ y ∈ pre ++ [x],y.1 ≠ f.flat from fun y hy=>by
         rcases List.mem_append.1 hy with g | g
         · exact hp.out y g
         · rw [List.mem_singleton.1 g];exact he)
       obtain ⟨F,hF⟩:∃ F,mcell x.1=F:=⟨_,rfl⟩
       rw [hF] at SF xb EQ ⊢;rw [hG] at EQ
       clear he hp
       gi_wp2_with (first | (refine in_load_box rfl _ _ rfl xb rfl Tryz.underlying37 rfl SF.out ?_) | (refine in_load_box rfl _ _ rfl xf rfl Tryz.underlying37 rfl SG.out ?_))
       exact ⟨KeepsFrom.refl _ _,⟨Below.refl _ _,rfl⟩,HP,hB,hz⟩
   case stop =>
     rintro D c pre W hD hpre ⟨rfl,xrb,xre,hB⟩ hK
     gi_wp2
     refine ⟨by simp,.inl ⟨_,_,rfl,run_takeDeferred hK,?_⟩⟩
     have hcb:=cell_kept (xrb.c 0 _ rfl) (grownBy_putObj' _ D (.deferred none)) (fun r e=>by cases e;exact ⟨_,hK,rfl⟩)
     have hce:=cell_kept (xre.c 0 _ rfl) (grownBy_putObj' _ D (.deferred none)) (fun r e=>by cases e;exact ⟨_,hK,rfl⟩)
     refine ⟨.tuple #[.bool b,.int .i64 q],?_,rfl,hB.trans (belowK_b (w:=w) (Nat.le_refl _) W D _ _ (by omega) hK rfl rfl)⟩
     simp [results,Tryz.f16,go_sem,hcb,hce]
   case done =>
     rintro D ys W3 hD hys ⟨hp,hB,hz⟩ hK
     have HX:=Lib.hid (HH.out.none HC.out HO.out (fun hm=>by
       rw [← hys] at hm
       obtain ⟨y,hy,e⟩:=List.mem_map.1 hm
       exact hp.out y hy e))
     have xrb:=Box.below x_b9 hB;have xre:=Box.below x_e9 hB;have hBw:=(hB9).trans (hB.mono hB9.size)
     clear hp hys x_d9 x_f9 x_b9 x_e9
     have cb:=xrb.c 0 _ rfl;have fb:=xrb.f 0 _ rfl;have zb:=xrb.lt;have ce:=xre.c 0 _ rfl;have fe:=xre.f 0 _ rfl;have ze:=xre.lt
     gi_wp2
     have yb:=((xrb).set 0 (.bool false)).other (a:=⟨w.heap.size + 3,0,none⟩) (by simp) (.int .i64 0);have ye:=((xre).other (a:=⟨w.heap.size + 2,0,none⟩) (by simp) (.bool false)).set 0 (.int .i64 0)
     have hK2:=((KeepsOthers.setCell W3 ⟨w.heap.size + 2,0,none⟩ (.bool false)).trans (KeepsOthers.setCell _ ⟨w.heap.size + 3,0,none⟩ (.int .i64 0))).same D _ hK rfl
     have hB9:=(hBw.setCell (p:=⟨w.heap.size + 2,0,none⟩) (by simp) (.bool false)).setCell (p:=⟨w.heap.size + 3,0,none⟩) (by simp) (.int .i64 0)
     refine ⟨by simp,.inl ⟨_,_,rfl,run_takeDeferred hK2,?_⟩⟩
     have hcb:=cell_kept (yb.c 0 _ rfl) (grownBy_putObj' _ D (.deferred none)) (fun r e=>by cases e;exact ⟨_,hK2,rfl⟩)
     have hce:=cell_kept (ye.c 0 _ rfl) (grownBy_putObj' _ D (.deferred none)) (fun r e=>by cases e;exact ⟨_,hK2,rfl⟩)
     refine ⟨.tuple #[.bool false,.int .i64 0],?_,by rw [HX.out.1,HX.out.2],hB9.trans (belowK_b (w:=w) (Nat.le_refl _) _ D _ _ (by omega) hK2 rfl rfl)⟩
     simp [results,Tryz.f16,go_sem,hcb,hce]
theorem pfnd_is {v:Value} {ts:List Tk} {cs:List Cmd} (f:Frm) (hl:ts.length + cs.length≤180) {b:Bool} {q:Int} (h:FndF ts cs f b q) (w:World) (h1:IsD w v ts cs):Calls Tryz.prog 41 #[v,.agg (mcell f).toArray] w fun e w'=>e=.returned (.tuple #[.bool b,.int .i64 q])∧Below w.heap.size w w':=callsIn_wide.1 (pfnd_x f hl h w h1)
theorem pacp_is {v:Value} {ts:List Tk} {cs:List Cmd} (f:Frm) (hl:ts.length + cs.length≤180) {b:Bool} {q:Int} (h:AcpD ts cs f b q) (w:World) (h1:IsD w v ts cs):Calls Tryz.prog 16 #[v,.agg (mcell f).toArray] w fun e w'=>e=.returned (.tuple #[.bool b,.int .i64 q])∧Below w.heap.size w w':=callsIn_wide.1 (pacp_x f hl h w h1)
end Go.Proofs.YtnfejdfjlnpldaaGreatDoor
