import Derived.Shelf.Unicode.ValidAny
import Derived.Test.YtihboehpeehlmaaGreatDoorProg
namespace Go.Proofs
open Tryz
open Tryz
theorem kzShelfV{α:Type}{a:Option α}{b c:α}(h:a=some b)(e:b=c:=by kernel_rfl):a=some c:=e▸h
open Go.Shelf
def Tryz.laysValid_ren : Go.Shelf.Ren := ⟨fun | 196 => 50 | 259 => 86 | n => n, fun | 9 => 9 | 4 => 4 | 3 => 3 | 5 => 5 | 12 => 12 | 119 => 131 | 0 => 0 | 46 => 135 | 139 => 134 | 138 => 133 | 53 => 170 | n => n, fun | 3 => 0 | 4 => 1 | n => n⟩
theorem Tryz.laysValid : Go.Proofs.Lays.n196 Tryz.prog Tryz.laysValid_ren := {mixed:=by kernel_rfl,f196:=kzShelfV func50,f259:=kzShelfV func86,t0:=underlying0,a0:=isAgg0,z0:=sizeOf0,v0:=zeroValue0,t3:=underlying3,a3:=isAgg3,z3:=sizeOf3,v3:=zeroValue3,t4:=underlying4,a4:=isAgg4,z4:=sizeOf4,v4:=zeroValue4,t5:=underlying5,a5:=isAgg5,z5:=sizeOf5,v5:=zeroValue5,t9:=underlying9,a9:=isAgg9,z9:=sizeOf9,v9:=zeroValue9,t12:=underlying12,a12:=isAgg12,z12:=sizeOf12,v12:=zeroValue12,t46:=underlying135,a46:=isAgg135,z46:=sizeOf135,v46:=zeroValue135,t53:=underlying170,a53:=isAgg170,z53:=sizeOf170,v53:=zeroValue170,t119:=underlying131,a119:=isAgg131,z119:=sizeOf131,t138:=underlying133,a138:=isAgg133,z138:=sizeOf133,v138:=zeroValue133,t139:=underlying134,a139:=isAgg134,z139:=sizeOf134,v139:=zeroValue134,g3:=by kernel_rfl,g4:=by kernel_rfl}
end Go.Proofs
