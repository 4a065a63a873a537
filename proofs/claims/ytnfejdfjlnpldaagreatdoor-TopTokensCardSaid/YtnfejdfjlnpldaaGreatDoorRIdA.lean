import Derived.Test.YtnfejdfjlnpldaaGreatDoorIdMath
import Derived.Test.YtnfejdfjlnpldaaGreatDoorGX1
import Derived.Test.YtnfejdfjlnpldaaGreatDoorGB1
namespace Go.Proofs.YtnfejdfjlnpldaaGreatDoor
open Go.RowKit
def zT12:List Value:=tcell Nums.zero zeroD
end Go.Proofs.YtnfejdfjlnpldaaGreatDoor
