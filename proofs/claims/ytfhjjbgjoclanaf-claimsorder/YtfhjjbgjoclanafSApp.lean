import Derived.Test.YtfhjjbgjoclanafSRow
namespace Go.Proofs.Ytfhjjbgjoclanaf
open Go.RowKit
set_option linter.unusedVariables false
structure C5 (W:World) (b:Nat) (iss:ByteArray) (x:Value) (iat nbf exp:Int):Prop where
 c0:W.cell? ⟨b,0,none⟩=some (.string iss)
 c1:W.cell? ⟨b,1,none⟩=some x
 c2:W.cell? ⟨b,2,none⟩=some (.int .i64 iat)
 c3:W.cell? ⟨b,3,none⟩=some (.int .i64 nbf)
 c4:W.cell? ⟨b,4,none⟩=some (.int .i64 exp)
theorem cell_lw{B:Nat}{W W':World}(hb:Below B W W'){b k:Nat}{v:Value}(hlt:b<B)(h:W.cell? ⟨b,k,none⟩=some v):W'.cell? ⟨b,k,none⟩=some v:=(hb.cell (p:=⟨b,k,none⟩) hlt).trans h
theorem C5.low{B:Nat}{W W':World}{b:Nat}{iss:ByteArray}{x:Value}{iat nbf exp:Int}(h:C5 W b iss x iat nbf exp)(hb:Below B W W')(hlt:b<B):C5 W' b iss x iat nbf exp:=
 ⟨cell_lw hb hlt h.c0,cell_lw hb hlt h.c1,cell_lw hb hlt h.c2,cell_lw hb hlt h.c3,cell_lw hb hlt h.c4⟩
theorem C5.new(W:World)(iss:ByteArray)(x:Value)(iat nbf exp:Int)(t:TypeId):C5 (W.alloc (.cells #[.string iss,x,.int .i64 iat,.int .i64 nbf,.int .i64 exp] t)) W.heap.size iss x iat nbf exp:=
 ⟨by simp,by simp,by simp,by simp,by simp⟩
theorem C5.set{W:World}{b:Nat}{iss:ByteArray}{x:Value}{iat nbf exp:Int}(h:C5 W b iss x iat nbf exp)(y:Value):C5 (W.setCell ⟨b,1,none⟩ y) b iss y iat nbf exp:=
 ⟨(World.cell?_setCell_other _ _ _ _ (by simp)).trans h.c0,World.cell?_setCell_same _ _ _ h.c1,(World.cell?_setCell_other _ _ _ _ (by simp)).trans h.c2,(World.cell?_setCell_other _ _ _ _ (by simp)).trans h.c3,(World.cell?_setCell_other _ _ _ _ (by simp)).trans h.c4⟩
theorem one_cellS(w:World)(y:Value)(e:TypeId):∀(j:Nat) (u:Value),[y][j]?=some u→(w.alloc (.cells #[y] e)).cell? ((⟨w.heap.size,0,none⟩:Addr).add j)=some u:=by
 intro j u h;match j with
 | 0=>simp at h;subst h;simp[Addr.add]
 | j+1=>simp at h
theorem wp_oneStr{P:Program}{ops:Array Oper}{rest:List Oper}{o:Oper}{a:Act}{Q:Exit→Act→World→Prop}(hgd:o.guard=none)(s x:Operand)(t:TypeId)(ho:o.op=.call {callee:=.builtin .append,args:= #[s,x],argTypes:= #[t,t]})
 (e:TypeId) (i:TypeInfo) (ht:P.underlying t=some (.slice e)) (hi:P.info? e=some i) (hz:i.zero=some (.string ByteArray.empty)) (hsize:i.size=1) (hby:i.bytes=16)
 (B:Nat) (v:Value) (xs:List ByteArray) (y:ByteArray) (w0:World) (hs:a.eval s=v) (hown:w0.ownsRow B e 1 v xs.length (xs.map Value.string)) (hB:B≤w0.heap.size) (hlen:xs.length≤8796093022208)
 (hx:a.eval x=.slice (some ⟨w0.heap.size,0,none⟩) 1 1)
 (h:∀v' w',w'.ownsRow B e 1 v' (xs++[y]).length ((xs++[y]).map Value.string)→Below B w0 w'→wpList P ops Q rest (a.put o.dst v') w'):wpList P ops Q (o::rest) a (w0.alloc (.cells #[.string y] e)):=by
 refine wpList_append_own_wide _ hgd s x t ho B e i (.string ByteArray.empty) 1 16 ht hi hz hsize hby rfl (by decide) v xs.length (xs.map Value.string) hs (hown.alloc _) ⟨w0.heap.size,0,none⟩ 1 1 [.string y] hx rfl (one_cellS w0 _ e) (by intro u hu;simp at hu;subst hu;rfl) (by unfold maxLen;omega) (by omega) (by simp;omega) ?_;intro v' w' h1 h2 _;refine h v' w' (by simpa using h1) (((Below.refl B w0).alloc hB _).grown h2 (by simp;omega) ?_);intro k hk;exact(hown.lt k hk).1
theorem row_kp{B:Nat}{e:TypeId}{k:Nat}{v:Value}{n:Nat}{xs:List Value}{w w':World}(h:w.ownsRow B e k v n xs)(hb:Below w.heap.size w w'):w'.ownsRow B e k v n xs:=
 h.kept (row:=none) ⟨hb.os,hb.tape,hb.output,hb.size,fun j hj _=>hb.block j hj⟩ (by cases hv:v.ownBlock<;>simp)
end Go.Proofs.Ytfhjjbgjoclanaf
