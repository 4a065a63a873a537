import Derived.Test.YtnfejdfjlnpldaaGreatDoorKyB
namespace Go.Proofs.YtnfejdfjlnpldaaGreatDoor
open Go.RowKit
def rrow (r:Req):List Fd:=.num 2 1 (by decide) (by decide) :: (r.k.row ++ [fdD r.g r.hg r.hgb,.num 3 r.ep (by decide) ⟨r.hep.1,by have:=r.hep.2;omega⟩,.num 4 r.co (by decide) ⟨r.hco.1,by have:=r.hco.2;omega⟩])
theorem rrow_e (r:Req):rowE (rrow r)=0:=rowE_ok (by show 8≤40;decide) (fun f hf=>by
 simp only [rrow,Nums.row,List.cons_append,List.nil_append,List.mem_cons,List.not_mem_nil,or_false] at hf
 rcases hf with rfl | rfl | rfl | rfl | rfl | rfl | rfl | rfl
 · exact num_ok _ _ (by decide) (by decide)
 · exact num_ok _ _ (by decide) r.k.ht.2
 · exact num_ok _ _ (by decide) r.k.hu.2
 · exact num_ok _ _ (by decide) r.k.he.2
 · exact num_ok _ _ (by decide) r.k.hx.2
 · exact fdD_ok r.hg r.hgb
 · exact num_ok _ _ (by decide) r.hep.2
 · exact num_ok _ _ (by decide) r.hco.2)
theorem rrow_b (r:Req):rowB (rrow r)=1 :: r.bs:=by
 unfold rrow
 rw [rowB_cons,rowB_app,r.k.row_b]
 show [1] ++ (r.k.msg ++ (r.g ++ (be 2 r.ep ++ (be 4 r.co ++ []))))=1 :: (r.k.msg ++ (r.g ++ (be 2 r.ep ++ be 4 r.co)))
 rw [List.append_nil]
 rfl
def kinQ:List Int:=[2,4,4,4,5,6,3,4]
theorem rrow_k (r:Req):(rrow r).map Fd.k=kinQ:=rfl
theorem rrow_rea (r:Req):reaE kinQ (1 :: r.bs)=0∧reaF kinQ (1 :: r.bs)=rrow r:=by
 have:=rea_of (rrow_e r)
 rwa [rrow_k,rrow_b] at this
theorem rbs_byts (r:Req):Byts (1 :: r.bs):=fun x hx=>by
 rcases List.mem_cons.1 hx with rfl | h
 · exact ⟨by decide,by decide⟩
 · exact r.bs_byts x h
theorem rbs_len (r:Req):(1 :: r.bs).length=59:=by rw [List.length_cons,r.bs_len]
theorem rbs_msg (r:Req):((1 :: r.bs).take 21).drop 1=r.k.msg:=by
 show (r.bs.take 20)=_
 unfold Req.bs
 rw [List.take_left' r.k.msg_len]
theorem rbs_tok (r:Req):((1 :: r.bs).take 53).drop 1=r.k.msg ++ r.g:=by
 show (r.bs.take 52)=_
 unfold Req.bs
 rw [← List.append_assoc,List.take_left' (by rw [List.length_append,r.k.msg_len,r.hg])]
theorem rbs_t (r:Req):((1 :: r.bs).take 5).drop 1=be 4 r.k.t:=by
 show (r.bs.take 4)=_
 unfold Req.bs Nums.msg
 rw [List.append_assoc,List.take_left' (be_len 4 _)]
theorem rbs_e (r:Req):((1 :: r.bs).take 13).drop 9=be 4 r.k.e:=by
 show ((r.bs.take 12).drop 8)=_
 unfold Req.bs Nums.msg
 have e:(be 4 r.k.t ++ (be 4 r.k.u ++ (be 4 r.k.e ++ be 8 r.k.x))) ++ (r.g ++ (be 2 r.ep ++ be 4 r.co))=(be 4 r.k.t ++ be 4 r.k.u) ++ (be 4 r.k.e ++ (be 8 r.k.x ++ (r.g ++ (be 2 r.ep ++ be 4 r.co)))):=by simp only [List.append_assoc]
 rw [e,List.drop_take,List.drop_left' (by rw [List.length_append,be_len,be_len]),List.take_left' (be_len 4 _)]
theorem keyMsg_app (t e:Int):[107] ++ (([] ++ be 4 t) ++ be 4 e)=keyMsg t e:=rfl
end Go.Proofs.YtnfejdfjlnpldaaGreatDoor
